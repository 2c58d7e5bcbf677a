package flowmod_test

import (
	"bytes"
	"fmt"
	"math"
	"slices"
	"testing"

	"weirbox/api"
	"weirbox/flowmod"
)

// The fields' table, written out anew: what the tests hold the answers against hangs on no layer.
var (
	idOf    = [api.Fields]int{0, 2, 3, 4, 5, 6, 7, 8, 9, 10, 11, 12, 13, 14, 15, 16, 19, 20, 21, 22, 23, 26, 27, 34}
	bytesOf = [api.Fields]int{4, 8, 6, 6, 2, 2, 1, 1, 1, 1, 4, 4, 2, 2, 2, 2, 1, 1, 2, 4, 4, 16, 16, 3}
)

// want is what a field needs: without values, any.
type want struct {
	field  int
	values []uint64
}

func ether(values ...uint64) want { return want{4, values} }

// wants are each field's needs.
var wants = [api.Fields][]want{
	6:  {{5, nil}},
	7:  {ether(0x0800, 0x86DD)},
	8:  {ether(0x0800, 0x86DD)},
	9:  {ether(0x0800, 0x86DD)},
	10: {ether(0x0800)},
	11: {ether(0x0800)},
	12: {ether(0x0800, 0x86DD), {9, []uint64{6}}},
	13: {ether(0x0800, 0x86DD), {9, []uint64{6}}},
	14: {ether(0x0800, 0x86DD), {9, []uint64{17}}},
	15: {ether(0x0800, 0x86DD), {9, []uint64{17}}},
	16: {ether(0x0800), {9, []uint64{1}}},
	17: {ether(0x0800), {9, []uint64{1}}},
	18: {ether(0x0806)},
	19: {ether(0x0806)},
	20: {ether(0x0806)},
	21: {ether(0x86DD)},
	22: {ether(0x86DD)},
	23: {ether(0x8847, 0x8848)},
}

// met tells whether l has what the field needs.
func met(l []api.Oxm, f int) bool {
	if f < 0 || f >= api.Fields {
		return true
	}
	all := true
	for _, w := range wants[f] {
		all = all && slices.ContainsFunc(l, func(o api.Oxm) bool {
			if o.Field != w.field || len(w.values) == 0 {
				return o.Field == w.field
			}
			return !o.Masked && o.Value.Hi == 0 && slices.Contains(w.values, o.Value.Lo)
		})
	}
	return all
}

// is is the part by which f has the value.
func is(f int, value uint64) api.Oxm { return api.Oxm{Field: f, Value: api.Wide{Lo: value}} }

// masked is the part by which f has the value in the bits of mask.
func masked(f int, value, mask uint64) api.Oxm {
	return api.Oxm{Field: f, Masked: true, Value: api.Wide{Lo: value}, Mask: api.Wide{Lo: mask}}
}

// set is the action that sets f.
func set(f int) api.Action { return api.Action{Kind: 25, Oxm: is(f, 1)} }

func pop() api.Action { return api.Action{Kind: 18} }

func write(l ...api.Action) api.Inst { return api.Inst{Kind: 3, Acts: l} }
func apply(l ...api.Action) api.Inst { return api.Inst{Kind: 4, Acts: l} }

// spell is the size lowest bytes of a, the highest first.
func spell(a api.Wide, size int) []byte {
	var b []byte
	for k := size - 1; k >= 0; k-- {
		half := a.Lo
		if k >= 8 {
			half = a.Hi
		}
		b = append(b, byte(half>>(8*(k%8))))
	}
	return b
}

func number(n, size int) []byte { return spell(api.Wide{Lo: uint64(n)}, size) }

func filled(b []byte) []byte {
	for len(b)%8 != 0 {
		b = append(b, 0)
	}
	return b
}

func oxmBytes(o api.Oxm) []byte {
	size := bytesOf[o.Field]
	if !o.Masked {
		return slices.Concat([]byte{0x80, 0, byte(2 * idOf[o.Field]), byte(size)}, spell(o.Value, size))
	}
	return slices.Concat([]byte{0x80, 0, byte(2*idOf[o.Field] + 1), byte(2 * size)}, spell(o.Value, size), spell(o.Mask, size))
}

func matchBytes(l ...api.Oxm) []byte {
	var b []byte
	for _, o := range l {
		b = append(b, oxmBytes(o)...)
	}
	return filled(slices.Concat([]byte{0, 1}, number(4+len(b), 2), b))
}

func actBytes(a api.Action) []byte {
	var b []byte
	switch a.Kind {
	case 0:
		b = slices.Concat(number(a.Port, 4), number(a.Max, 2), make([]byte, 6))
	case 17:
		b = append(number(a.Ether, 2), 0, 0)
	case 22:
		b = number(a.Group, 4)
	case 25:
		b = oxmBytes(a.Oxm)
	default:
		b = make([]byte, 4)
	}
	n := (4 + len(b) + 7) / 8 * 8
	return filled(slices.Concat(number(a.Kind, 2), number(n, 2), b))
}

func instBytes(l ...api.Inst) []byte {
	var all []byte
	for _, i := range l {
		b := []byte{byte(i.Table), 0, 0, 0}
		if i.Kind == 2 {
			b = slices.Concat(b, spell(i.Value, 8), spell(i.Mask, 8))
		}
		for _, a := range i.Acts {
			b = append(b, actBytes(a)...)
		}
		all = slices.Concat(all, number(i.Kind, 2), number(4+len(b), 2), b)
	}
	return all
}

// headBytes are f's bytes ahead of its match.
func headBytes(f api.FlowMod) []byte {
	return slices.Concat(spell(api.Wide{Lo: f.Cookie}, 8), spell(api.Wide{Lo: f.CookieMask}, 8),
		number(f.Table, 1), number(f.Command, 1), number(f.Idle, 2), number(f.Hard, 2), number(f.Priority, 2),
		number(f.Buffer, 4), number(f.OutPort, 4), number(f.OutGroup, 4), number(f.Flags, 2), []byte{0, 0})
}

// laid is f's bytes by the chapter's words, whether it may be or not.
func laid(f api.FlowMod) []byte {
	return slices.Concat(headBytes(f), matchBytes(f.Match...), instBytes(f.Insts...))
}

// someMatches are matches that may be.
func someMatches() [][]api.Oxm {
	return [][]api.Oxm{
		nil,
		{is(0, 5)},
		{is(4, 0x0800), is(9, 6)},
		{is(4, 0x86DD), is(9, 17), is(15, 53)},
		{masked(5, 0x1000, 0x1000), is(6, 7)},
		{is(4, 0x0800), masked(10, 0x0A000000, 0xFF000000), is(9, 1), is(17, 3)},
		{{Field: 1, Masked: true, Value: api.Wide{Lo: 1 << 63}, Mask: api.Wide{Lo: math.MaxUint64}}, is(2, 1), is(3, 2), is(4, 0x8847), is(23, 0xFFFFF)},
		{is(4, 0x0806), is(18, 1), is(19, 2), is(20, 3)},
		{is(4, 0x86DD), {Field: 21, Value: api.Wide{Hi: 1, Lo: 2}}, {Field: 22, Masked: true, Value: api.Wide{Hi: 4}, Mask: api.Wide{Hi: 4, Lo: 1}}},
	}
}

// someInsts are instructions that may be, with each match.
func someInsts() [][]api.Inst {
	meta := api.Inst{Kind: 2, Value: api.Wide{Lo: 0x0102030405060708}, Mask: api.Wide{Lo: 0xFFFFFFFFFFFFFFFF}}
	long := slices.Repeat([]api.Action{{Kind: 0, Port: 0xFFFFFFFD, Max: 65535}, set(2)}, 50)
	return [][]api.Inst{
		nil,
		{{Kind: 1, Table: 254}},
		{meta},
		{write(pop(), api.Action{Port: 1})},
		{apply(set(2), set(3), set(4), set(5), api.Action{Kind: 17, Ether: 0x88A8}, api.Action{Kind: 22, Group: 9})},
		{{Kind: 5}},
		{apply(), write(), meta, {Kind: 1}, {Kind: 5}},
		{write(long...), apply(long...)},
	}
}

// some are changes that may be, each unlike all others.
func some() []api.FlowMod {
	var all []api.FlowMod
	for i, m := range someMatches() {
		for k, l := range someInsts() {
			n := len(all)
			all = append(all, api.FlowMod{Cookie: uint64(n) << (i * 7), CookieMask: uint64(n) << (k * 8), Table: n * 3, Command: n % 5,
				Idle: n * 701, Hard: 65535 - n, Priority: n*n + 256, Buffer: 0xFFFFFFFF - n, OutPort: n << 20, OutGroup: n * 0x1234567, Flags: n % 32,
				Match: m, Insts: l})
		}
	}
	return all
}

// plain is a change that may be, with some of all that there is.
func plain() api.FlowMod {
	return api.FlowMod{Cookie: 1, CookieMask: 2, Table: 3, Command: 1, Idle: 4, Hard: 5, Priority: 6, Buffer: 7, OutPort: 8, OutGroup: 9, Flags: 10,
		Match: []api.Oxm{is(0, 1), is(4, 0x0800), is(9, 6)},
		Insts: []api.Inst{write(set(13), pop()), apply(pop(), set(10), set(2)), {Kind: 1, Table: 7}}}
}

// place is where a number of a change is, and what it has on the wire.
type place struct {
	name     string
	at, size int
	most     int // the greatest that it may be
	of       func(f *api.FlowMod) *int
}

func places() []place {
	return []place{
		{"Table", 16, 1, 255, func(f *api.FlowMod) *int { return &f.Table }},
		{"Command", 17, 1, 4, func(f *api.FlowMod) *int { return &f.Command }},
		{"Idle", 18, 2, 65535, func(f *api.FlowMod) *int { return &f.Idle }},
		{"Hard", 20, 2, 65535, func(f *api.FlowMod) *int { return &f.Hard }},
		{"Priority", 22, 2, 65535, func(f *api.FlowMod) *int { return &f.Priority }},
		{"Buffer", 24, 4, 0xFFFFFFFF, func(f *api.FlowMod) *int { return &f.Buffer }},
		{"OutPort", 28, 4, 0xFFFFFFFF, func(f *api.FlowMod) *int { return &f.OutPort }},
		{"OutGroup", 32, 4, 0xFFFFFFFF, func(f *api.FlowMod) *int { return &f.OutGroup }},
		{"Flags", 36, 2, 31, func(f *api.FlowMod) *int { return &f.Flags }},
	}
}

func equalInsts(a, b []api.Inst) bool {
	return slices.EqualFunc(a, b, func(x, y api.Inst) bool {
		return x.Kind == y.Kind && x.Table == y.Table && x.Value == y.Value && x.Mask == y.Mask && slices.Equal(x.Acts, y.Acts)
	})
}

// equal holds changes together without the layer's own Same.
func equal(a, b api.FlowMod) bool {
	for _, p := range places() {
		if *p.of(&a) != *p.of(&b) {
			return false
		}
	}
	return a.Cookie == b.Cookie && a.CookieMask == b.CookieMask && slices.Equal(a.Match, b.Match) && equalInsts(a.Insts, b.Insts)
}

// copied is f with lists of its own.
func copied(f api.FlowMod) api.FlowMod {
	f.Match = slices.Clone(f.Match)
	f.Insts = slices.Clone(f.Insts)
	for i := range f.Insts {
		f.Insts[i].Acts = slices.Clone(f.Insts[i].Acts)
	}
	return f
}

// short is what is told of a change, or of bytes, if a test fails.
func short(x any) string {
	text := fmt.Sprintf("%x", x)
	return text[:min(len(text), 400)]
}

func fault(kind, code int) api.Fault { return api.Fault{Is: true, Type: kind, Code: code} }

func taken(t *testing.T, f api.FlowMod) {
	t.Helper()
	want := laid(f)
	if !flowmod.Right(f) || flowmod.Check(f) != (api.Fault{}) {
		t.Errorf("Right(%s): %v, Check: %v", short(f), flowmod.Right(f), flowmod.Check(f))
	}
	if b, e := flowmod.Encode(f); e != api.OK || !bytes.Equal(b, want) {
		t.Errorf("Encode(%s): %s, %d, want %s", short(f), short(b), e, short(want))
	}
	if got, x := flowmod.Decode(want); x != (api.Fault{}) || !equal(got, f) || !flowmod.Same(got, f) {
		t.Errorf("Decode(%s): %s, %v, want %s", short(want), short(got), x, short(f))
	}
}

func notTaken(t *testing.T, f api.FlowMod) {
	t.Helper()
	if flowmod.Right(f) {
		t.Errorf("Right(%s): true", short(f))
	}
	if b, e := flowmod.Encode(f); e != api.ErrArg || len(b) != 0 {
		t.Errorf("Encode(%s): %s, %d", short(f), short(b), e)
	}
}

func told(t *testing.T, b []byte, want api.Fault) {
	t.Helper()
	if f, x := flowmod.Decode(b); x != want || !equal(f, api.FlowMod{}) {
		t.Errorf("Decode(%s): %s, %v, want %v", short(b), short(f), x, want)
	}
}

func checked(t *testing.T, f api.FlowMod, want api.Fault) {
	t.Helper()
	if x := flowmod.Check(f); x != want {
		t.Errorf("Check(%s): %v, want %v", short(f), x, want)
	}
}

func TestSpelt(t *testing.T) { // P17.2: told without a second reckoning
	f := api.FlowMod{Cookie: 0x0102030405060708, CookieMask: 0x1112131415161718, Table: 0x21, Command: api.FlowModifyStrict, Idle: 0x2223, Hard: 0x2425, Priority: 0x2627,
		Buffer: 0x31323334, OutPort: 0x41424344, OutGroup: 0x51525354, Flags: 0x1F, Match: []api.Oxm{is(api.InPort, 5)}, Insts: []api.Inst{{Kind: api.InstGoto, Table: 2}}}
	b := []byte{1, 2, 3, 4, 5, 6, 7, 8, 0x11, 0x12, 0x13, 0x14, 0x15, 0x16, 0x17, 0x18,
		0x21, 2, 0x22, 0x23, 0x24, 0x25, 0x26, 0x27, 0x31, 0x32, 0x33, 0x34, 0x41, 0x42, 0x43, 0x44, 0x51, 0x52, 0x53, 0x54, 0, 0x1F, 0, 0,
		0, 1, 0, 12, 0x80, 0, 0, 4, 0, 0, 0, 5, 0, 0, 0, 0, 0, 1, 0, 8, 2, 0, 0, 0}
	if !bytes.Equal(laid(f), b) {
		t.Fatalf("laid: %x", laid(f))
	}
	taken(t, f)
	taken(t, api.FlowMod{})
	bare := append(make([]byte, 40), 0, 1, 0, 4, 0, 0, 0, 0)
	if got, e := flowmod.Encode(api.FlowMod{}); e != api.OK || !bytes.Equal(got, bare) {
		t.Errorf("Encode of nothing: %x, %d", got, e)
	}
	full := bytes.Repeat([]byte{255}, 40)
	copy(full[17:], []byte{4})
	copy(full[36:], []byte{0, 31, 0, 0})
	got, x := flowmod.Decode(append(full, 0, 1, 0, 4, 0, 0, 0, 0))
	if want := (api.FlowMod{Cookie: math.MaxUint64, CookieMask: math.MaxUint64, Table: 255, Command: api.FlowDeleteStrict, Idle: 65535, Hard: 65535, Priority: 65535,
		Buffer: api.NoBuffer, OutPort: api.PortAny, OutGroup: api.GroupAny, Flags: 31}); x.Is || !equal(got, want) {
		t.Errorf("Decode of the greatest: %v, %v", got, x)
	}
}

func TestBothWays(t *testing.T) { // P17.2, P17.3
	for _, f := range some() {
		taken(t, f)
	}
	for _, base := range []api.FlowMod{{}, plain()} {
		for _, m := range someMatches() {
			for _, l := range someInsts() {
				for command := range 5 {
					f := base
					f.Command, f.Match, f.Insts = command, m, l
					taken(t, f)
				}
			}
		}
	}
}

func TestNumbers(t *testing.T) { // P17.1, P17.2: each at its least and its greatest, one beyond each, and further
	for _, p := range places() {
		for _, base := range append(some()[:9], plain()) {
			base.Insts = nil // so that any Command takes it
			for _, n := range []int{0, 1, 2, 4, 30, 31, 127, 128, 254, 255, 256, 32767, 32768, 65534, 65535, 65536, 1<<31 - 1, 1 << 31, 0xFFFFFFFE, 0xFFFFFFFF, p.most - 1, p.most} {
				f := base
				*p.of(&f) = n
				if n <= p.most {
					taken(t, f)
				} else {
					notTaken(t, f)
				}
			}
			for _, n := range []int{math.MinInt, math.MinInt + 1, -1 << 32, -65536, -256, -2, -1, p.most + 1, p.most + 2, 1 << (8 * p.size), 1<<(8*p.size) + 1, 1 << 32, 1<<32 + 1, 1 << 62, math.MaxInt} {
				f := base
				*p.of(&f) = n
				notTaken(t, f)
			}
		}
	}
}

func TestBytesOfNumbers(t *testing.T) { // P17.2: each byte is one of its own number alone
	for _, p := range places() {
		for k := range p.size {
			for bit := range 8 {
				n := 1 << (8*(p.size-1-k) + bit)
				f := api.FlowMod{}
				*p.of(&f) = n
				b := laid(api.FlowMod{})
				b[p.at+k] = 1 << bit
				if !bytes.Equal(b, laid(f)) {
					t.Errorf("%s: %x", p.name, b)
				}
				if n <= p.most {
					taken(t, f)
				}
			}
		}
	}
}

func TestCookies(t *testing.T) { // P17.1, P17.2: any
	for i := range 64 {
		for _, base := range []api.FlowMod{{}, plain()} {
			f, g := base, base
			f.Cookie ^= 1 << i
			g.CookieMask ^= 1 << i
			taken(t, f)
			taken(t, g)
			f.CookieMask = math.MaxUint64 &^ (1 << i)
			g.Cookie = math.MaxUint64 &^ (1 << i)
			taken(t, f)
			taken(t, g)
		}
	}
}

func TestCommands(t *testing.T) { // P17.1, P17.2: each, and those beyond
	for want, command := range []int{api.FlowAdd, api.FlowModify, api.FlowModifyStrict, api.FlowDelete, api.FlowDeleteStrict} {
		f := plain()
		f.Command = command
		taken(t, f)
		if b := laid(f); b[17] != byte(want) {
			t.Errorf("command %d: %x", command, b)
		}
	}
	for _, base := range append(some()[:9], plain(), api.FlowMod{}) {
		for _, n := range []int{math.MinInt, -1 << 32, -256, -5, -1, 5, 6, 127, 128, 255, 256, 257, 260, 65536, 1 << 32, 1<<32 + 1, math.MaxInt} {
			f := base
			f.Command = n
			checked(t, f, fault(5, 6))
			notTaken(t, f)
		}
		for n := 5; n < 256; n++ {
			f := base
			f.Command = n
			told(t, laid(f), fault(5, 6))
		}
	}
}

func TestFlags(t *testing.T) { // P17.1, P17.2: 31 and 32
	for _, command := range []int{0, 1, 2, 3, 4} {
		f := plain()
		f.Command = command
		for n := range 32 {
			f.Flags = n
			taken(t, f)
		}
		for _, n := range []int{32, 33, 63, 64, 128, 255, 256, 32768, 65535, 65536, 65537, 1 << 32, 1<<32 + 1, math.MaxInt} {
			f.Flags = n
			checked(t, f, fault(5, 7))
			notTaken(t, f)
		}
		for n := 32; n < 65536; n += 1 + n/50 {
			f.Flags = n
			told(t, laid(f), fault(5, 7))
		}
		// Below 0 they may not be, but they aren't above 31.
		for _, n := range []int{-1, -32, -65536, math.MinInt} {
			f.Flags = n
			checked(t, f, api.Fault{})
			notTaken(t, f)
		}
	}
}

func TestCheckAsksNothingElse(t *testing.T) { // P17.1: other numbers, matches and instructions that may not be are no fault of Check
	for _, p := range places() {
		for _, n := range []int{math.MinInt, -1, 1 << 40, math.MaxInt} {
			f := plain()
			if *p.of(&f) = n; p.name != "Command" && p.name != "Flags" {
				checked(t, f, api.Fault{})
			}
		}
	}
	for _, m := range wrongMatches() {
		checked(t, api.FlowMod{Match: m}, api.Fault{})
		checked(t, api.FlowMod{Match: m, Insts: []api.Inst{apply(pop(), set(2))}}, api.Fault{})
	}
	for _, l := range wrongInsts() {
		checked(t, api.FlowMod{Insts: l}, api.Fault{})
	}
	for _, f := range []int{math.MinInt, -1, 24, 1 << 32, math.MaxInt} { // what is no field needs nothing
		checked(t, api.FlowMod{Insts: []api.Inst{apply(set(f))}}, api.Fault{})
	}
}

// asked are matches that have what some fields need, or nearly so; some may not be.
func asked() [][]api.Oxm {
	all := append(someMatches(), wrongMatches()...)
	for _, ethers := range []uint64{0x0800, 0x86DD, 0x0806, 0x8847, 0x8848, 0x8100, 0} {
		all = append(all, []api.Oxm{is(4, ethers)}, []api.Oxm{masked(4, ethers, 0xFFFF)})
		for _, proto := range []uint64{1, 6, 17, 58, 0} {
			all = append(all, []api.Oxm{is(4, ethers), is(9, proto)}, []api.Oxm{is(9, proto), is(4, ethers)}, []api.Oxm{is(4, ethers), masked(9, proto, 0xFF)})
		}
		all = append(all, []api.Oxm{{Field: 4, Value: api.Wide{Hi: 1, Lo: ethers}}})
	}
	return append(all, []api.Oxm{is(9, 6)}, []api.Oxm{is(5, 0)}, []api.Oxm{masked(5, 0, 1)}, []api.Oxm{is(6, 0)})
}

func TestNeeds(t *testing.T) { // P17.1: each field against each match
	yes, no := 0, 0
	for _, m := range asked() {
		for f := range api.Fields {
			want := api.Fault{}
			if !met(m, f) {
				want = fault(2, 10)
				no++
			} else {
				yes++
			}
			for _, l := range [][]api.Inst{{apply(set(f))}, {write(set(f))}} {
				for command := range 3 {
					c := api.FlowMod{Command: command, Match: m, Insts: l}
					checked(t, c, want)
					if want.Is {
						notTaken(t, c)
					}
				}
				for _, command := range []int{3, 4} {
					checked(t, api.FlowMod{Command: command, Match: m, Insts: l}, api.Fault{})
				}
			}
			// Only an ActSet sets, whatever else has a field.
			for _, kind := range []int{0, 17, 18, 22, 24, 26, -1} {
				checked(t, api.FlowMod{Match: m, Insts: []api.Inst{apply(api.Action{Kind: kind, Oxm: is(f, 1)})}}, api.Fault{})
			}
		}
	}
	if yes < 500 || no < 500 {
		t.Errorf("too few of a kind: %d, %d", yes, no)
	}
	for _, m := range someMatches() { // and on the wire, where the field may be set at all
		for f := 2; f < api.Fields; f++ {
			for command := range 5 {
				c := api.FlowMod{Command: command, Match: m, Insts: []api.Inst{write(pop(), set(f))}}
				if command > 2 || met(m, f) {
					taken(t, c)
				} else {
					notTaken(t, c)
					told(t, laid(c), fault(2, 10))
				}
			}
		}
	}
}

func TestUnmetAnywhere(t *testing.T) { // P17.1: first, in the midst, last, in what writes and what applies, in the last of all instructions
	for _, f := range []int{6, 7, 9, 10, 13, 15, 16, 18, 21, 23} {
		for _, n := range []int{0, 1, 2, 3, 50, 99} {
			acts := slices.Repeat([]api.Action{pop(), set(2), {Port: 1}}, 34)[:n]
			for _, at := range []int{0, n / 2, n} {
				l := slices.Insert(slices.Clone(acts), at, set(f))
				for _, list := range [][]api.Inst{
					{write(l...)},
					{apply(l...)},
					{write(l...), apply(l...)},
					{write(acts...), apply(l...)},
					{apply(l...), write(acts...)},
					{{Kind: 5}, {Kind: 1, Table: 3}, {Kind: 2}, apply(acts...), write(l...)},
					{write(l...), {Kind: 2}, apply(), {Kind: 1, Table: 3}, {Kind: 5}},
				} {
					for command := range 5 {
						c := api.FlowMod{Command: command, Insts: list}
						if command > 2 {
							taken(t, c)
							continue
						}
						checked(t, c, fault(2, 10))
						notTaken(t, c)
						told(t, laid(c), fault(2, 10))
					}
				}
			}
		}
	}
	// Check goes through what any instruction has, also one of a kind that has no actions, and behind one that may not be.
	for _, kind := range []int{math.MinInt, -1, 0, 1, 2, 5, 6, math.MaxInt} {
		checked(t, api.FlowMod{Insts: []api.Inst{{Kind: kind, Acts: []api.Action{set(9)}}}}, fault(2, 10))
		checked(t, api.FlowMod{Insts: []api.Inst{{Kind: kind, Table: -1}, apply(api.Action{Kind: -1}, set(9))}}, fault(2, 10))
	}
}

func TestCheckOrder(t *testing.T) { // P17.1: which of its faults comes first
	for _, insts := range [][]api.Inst{nil, {apply(set(9))}} {
		for _, flags := range []int{0, 31, 32, 65535, math.MaxInt} {
			for _, command := range []int{-1, 0, 1, 2, 3, 4, 5, 255} {
				f := api.FlowMod{Command: command, Flags: flags, Insts: insts}
				want := api.Fault{}
				switch {
				case command < 0 || command > 4:
					want = fault(5, 6)
				case flags > 31:
					want = fault(5, 7)
				case command < 3 && len(insts) > 0:
					want = fault(2, 10)
				}
				checked(t, f, want)
				if command < 0 || flags > 65535 {
					continue
				}
				if want.Is {
					told(t, laid(f), want)
				} else {
					taken(t, f)
				}
			}
		}
	}
}

// wrongMatches are matches that their layer refuses.
func wrongMatches() [][]api.Oxm {
	return [][]api.Oxm{
		{is(-1, 0)}, {is(24, 0)}, {is(0, 1<<32)}, {is(5, 1<<13)}, {masked(0, 1, 1)}, {masked(5, 0, 0)}, {masked(5, 1, 2)}, {masked(5, 0, 1<<13)},
		{{Field: 0, Mask: api.Wide{Lo: 1}}},
		{is(9, 6)}, {is(9, 6), is(4, 0x0800)}, {is(4, 0x0806), is(9, 6)}, {is(4, 0x0800), is(9, 6), is(14, 1)},
		{is(0, 1), is(0, 1)}, {is(2, 1), is(3, 1), is(2, 2)},
		make([]api.Oxm, 300),
	}
}

// wrongInsts are instructions that their layer refuses.
func wrongInsts() [][]api.Inst {
	return [][]api.Inst{
		{{}}, {{Kind: 6}}, {{Kind: -1}}, {{Kind: 1, Table: 255}}, {{Kind: 1, Table: -1}}, {{Kind: 5, Table: 1}},
		{{Kind: 2, Value: api.Wide{Lo: 1}}}, {{Kind: 2, Mask: api.Wide{Hi: 1}}},
		{{Kind: 5}, {Kind: 5}}, {apply(), write(), apply()},
		{apply(api.Action{})}, {apply(api.Action{Kind: 1})}, {write(pop(), api.Action{Kind: 18, Port: 1})}, {write(api.Action{Kind: 22, Group: -1})},
		{apply(set(0))}, {write(set(1))}, {write(api.Action{Kind: 25, Oxm: masked(2, 1, 1)})},
		{apply(slices.Repeat([]api.Action{pop()}, 101)...)}, {write(), apply(make([]api.Action, 1000)...)},
	}
}

func TestEncodeOfWrong(t *testing.T) { // P17.1, P17.2: matches and instructions that their layers refuse, whatever the Command
	for command := range 5 {
		for _, m := range wrongMatches() {
			f := plain()
			f.Command, f.Match, f.Insts = command, m, nil
			notTaken(t, f)
			notTaken(t, api.FlowMod{Command: command, Match: m, Insts: []api.Inst{{Kind: 5}}})
		}
		for _, l := range wrongInsts() {
			f := plain()
			f.Command, f.Insts = command, l
			notTaken(t, f)
			notTaken(t, api.FlowMod{Command: command, Insts: l})
			for _, m := range wrongMatches() {
				notTaken(t, api.FlowMod{Command: command, Match: m, Insts: l})
			}
		}
	}
}

// bad are bytes that something refuses, with why.
type bad struct {
	b    []byte
	want api.Fault
}

// badMatches are bytes of matches that their layer refuses: each code that there is.
func badMatches() []bad {
	return []bad{
		{[]byte{0, 2, 0, 4, 0, 0, 0, 0}, fault(4, 0)},
		{[]byte{0, 0, 0, 4, 0, 0, 0, 0}, fault(4, 0)},
		{[]byte{0, 1, 0, 3, 0, 0, 0, 0}, fault(4, 1)},
		{[]byte{0, 1, 255, 255, 0, 0, 0, 0}, fault(4, 1)},
		{[]byte{0, 1, 0, 4, 0, 0, 0, 1}, fault(4, 1)},
		{[]byte{0, 1, 0, 8, 0x80, 0, 0, 4}, fault(4, 1)},
		{[]byte{0, 1, 0, 11, 0x80, 0, 0, 3, 1, 2, 3, 0, 0, 0, 0, 0}, fault(4, 1)},
		{[]byte{0, 1, 0, 12, 0x80, 0, 13, 4, 0, 1, 0, 2, 0, 0, 0, 0}, fault(4, 5)},
		{[]byte{0, 1, 0, 8, 0x80, 0, 0xFE, 0}, fault(4, 6)},
		{[]byte{0, 1, 0, 8, 0, 0, 0, 0}, fault(4, 6)},
		{[]byte{0, 1, 0, 10, 0x80, 0, 12, 2, 0x20, 0, 0, 0, 0, 0, 0, 0}, fault(4, 7)},
		{[]byte{0, 1, 0, 12, 0x80, 0, 13, 4, 0, 0, 0, 0, 0, 0, 0, 0}, fault(4, 8)},
		{[]byte{0, 1, 0, 16, 0x80, 0, 1, 8, 0, 0, 0, 1, 0, 0, 0, 1}, fault(4, 8)},
		{matchBytes(is(9, 6)), fault(4, 9)},
		{matchBytes(is(4, 0x0800), is(21, 1)), fault(4, 9)},
		{matchBytes(is(0, 1), is(0, 1)), fault(4, 10)},
	}
}

// badInsts are bytes of instructions that their layer refuses, with an InstWrite ahead or without: each code that there is.
func badInsts() []bad {
	all := []bad{
		{[]byte{0, 0, 0, 8, 0, 0, 0, 0}, fault(3, 0)},
		{[]byte{0, 6, 0, 8, 0, 0, 0, 0}, fault(3, 1)},
		{[]byte{0, 1, 0, 8, 255, 0, 0, 0}, fault(3, 2)},
		{instBytes(api.Inst{Kind: 2, Value: api.Wide{Lo: 1}}), fault(3, 4)},
		{[]byte{0, 1, 0, 16, 1, 0, 0, 0, 0, 0, 0, 0, 0, 0, 0, 0}, fault(3, 7)},
		{[]byte{0, 5, 0, 8, 0, 0, 0, 1}, fault(3, 7)},
		{[]byte{0, 5, 255, 248, 0, 0, 0, 0}, fault(3, 7)},
		{instBytes(api.Inst{Kind: 5}, api.Inst{Kind: 5}), fault(3, 9)},
		{instBytes(apply(slices.Repeat([]api.Action{pop()}, 101)...)), fault(2, 7)},
	}
	for n := 1; n < 8; n++ {
		all = append(all, bad{[]byte{0, 5, 0, 8, 0, 0, 0, 0}[:n], fault(3, 7)})
	}
	for _, one := range []bad{
		{[]byte{0, 9, 0, 8, 0, 0, 0, 0}, fault(2, 0)},
		{[]byte{0, 18, 0, 16, 0, 0, 0, 0}, fault(2, 1)},
		{make([]byte, 8), fault(2, 1)},
		{actBytes(api.Action{}), fault(2, 4)},
		{[]byte{0, 18, 0, 8, 0, 0, 0, 1}, fault(2, 5)},
		{actBytes(api.Action{Kind: 22, Group: 0xFFFFFF01}), fault(2, 9)},
		{actBytes(set(0)), fault(2, 13)},
		{[]byte{0, 25, 0, 8, 0x80, 0, 6, 6}, fault(2, 14)},
		{[]byte{0, 25, 0, 16, 0x80, 0, 13, 4, 0, 1, 0, 1, 0, 0, 0, 0}, fault(2, 15)},
	} {
		all = append(all, bad{slices.Concat([]byte{0, 4}, number(8+len(one.b), 2), make([]byte, 4), one.b), one.want})
	}
	return all
}

func TestFaultsOfLayers(t *testing.T) { // P17.2: each fault of the match and of the instructions, whatever the Command
	for command := range 5 {
		f := plain()
		f.Command = command
		head := headBytes(f)
		for _, m := range badMatches() {
			told(t, slices.Concat(head, m.b), m.want)
		}
		for _, i := range badInsts() {
			for _, m := range someMatches() {
				told(t, slices.Concat(head, matchBytes(m...), i.b), i.want)
				told(t, slices.Concat(head, matchBytes(m...), instBytes(write(set(2), pop())), i.b), i.want)
			}
		}
	}
}

func TestShort(t *testing.T) { // P17.2: fewer than 40 bytes, 40, and more
	for n := range 40 {
		told(t, make([]byte, n), fault(1, 6))
		told(t, bytes.Repeat([]byte{255}, n), fault(1, 6))
		for _, f := range append(some(), plain()) {
			told(t, laid(f)[:n], fault(1, 6)) // what stands in the spare room doesn't count
			told(t, laid(f)[:n:n], fault(1, 6))
		}
	}
	told(t, nil, fault(1, 6))
	for _, f := range append(some(), plain(), api.FlowMod{}) {
		b := laid(f)
		whole := 40 + len(matchBytes(f.Match...))
		for n := 40; n < whole; n++ {
			told(t, b[:n], fault(4, 1))
			told(t, b[:n:n], fault(4, 1))
		}
		ends := map[int]int{whole: 0}
		for k := range f.Insts {
			ends[whole+len(instBytes(f.Insts[:k+1]...))] = k + 1
		}
		for n := whole; n <= len(b); n++ {
			k, ok := ends[n]
			if !ok {
				told(t, b[:n], fault(3, 7))
				continue
			}
			g := f
			g.Insts = f.Insts[:k]
			if got, x := flowmod.Decode(b[:n]); x.Is || !equal(got, g) {
				t.Errorf("Decode of %d bytes: %s, %v", n, short(got), x)
			}
		}
		for n := 1; n < 8; n++ { // and behind it
			told(t, append(slices.Clone(b), make([]byte, n)...), fault(3, 7))
		}
		told(t, append(slices.Clone(b), make([]byte, 8)...), fault(3, 7))
		told(t, append(slices.Clone(b), 0, 0, 0, 8, 0, 0, 0, 0), fault(3, 0))
	}
}

func TestNoughts(t *testing.T) { // P17.2: each of the two, each of its bits, whatever stands beside
	for _, f := range append(some(), plain(), api.FlowMod{}) {
		for at := 38; at < 40; at++ {
			for bit := range 8 {
				b := laid(f)
				b[at] = 1 << bit
				told(t, b, fault(1, 6))
				told(t, b[:40], fault(1, 6))
				b[77-at] = 255
				told(t, b, fault(1, 6))
			}
		}
	}
}

// heads are bytes ahead of a match, with what Check tells of them: nothing, or what is wrong.
func heads() []bad {
	var all []bad
	for _, f := range []struct {
		command, flags int
		want           api.Fault
	}{{0, 31, api.Fault{}}, {3, 0, api.Fault{}}, {5, 0, fault(5, 6)}, {255, 65535, fault(5, 6)}, {0, 32, fault(5, 7)}, {4, 65535, fault(5, 7)}} {
		all = append(all, bad{headBytes(api.FlowMod{Cookie: 7, Command: f.command, Flags: f.flags, Priority: 9}), f.want})
	}
	return all
}

func TestFirstOfTwoFaults(t *testing.T) { // P17.2, R1: the noughts, the match, the instructions, Check
	unmet := instBytes(write(set(9), pop()))
	for _, head := range heads() {
		pad := slices.Clone(head.b)
		pad[39] = 1
		right := matchBytes()
		for _, i := range badInsts() {
			for _, ahead := range [][]byte{nil, unmet} {
				insts := slices.Concat(ahead, i.b)
				told(t, slices.Concat(head.b, right, insts), i.want)
				told(t, slices.Concat(pad, right, insts), fault(1, 6))
				for _, m := range badMatches() {
					told(t, slices.Concat(head.b, m.b, insts), m.want)
					told(t, slices.Concat(pad, m.b, insts), fault(1, 6))
				}
			}
		}
		for _, m := range badMatches() {
			told(t, slices.Concat(head.b, m.b, unmet), m.want)
			told(t, slices.Concat(head.b, m.b), m.want)
			told(t, slices.Concat(pad, m.b), fault(1, 6))
		}
		told(t, slices.Concat(pad, right, unmet), fault(1, 6))
		want := head.want
		if !want.Is && head.b[17] == 0 {
			want = fault(2, 10)
		}
		if want.Is {
			told(t, slices.Concat(head.b, right, unmet), want)
		}
	}
}

// changes are of each thing that a change has.
func changes() []func(*api.FlowMod) {
	all := []func(*api.FlowMod){
		func(f *api.FlowMod) { f.Match = append(f.Match, is(0, 1)) },
		func(f *api.FlowMod) { f.Match = append([]api.Oxm{is(0, 1)}, f.Match...) },
		func(f *api.FlowMod) { f.Match = append(f.Match, api.Oxm{}) },
		func(f *api.FlowMod) { f.Insts = append(f.Insts, api.Inst{}) },
		func(f *api.FlowMod) { f.Insts = append(f.Insts, api.Inst{Kind: 5}) },
		func(f *api.FlowMod) { f.Insts = append([]api.Inst{{Kind: 5, Table: 1}}, f.Insts...) },
		func(f *api.FlowMod) { f.Cookie, f.CookieMask = f.CookieMask+1, f.Cookie },
	}
	for i := range 64 {
		all = append(all, func(f *api.FlowMod) { f.Cookie ^= 1 << i }, func(f *api.FlowMod) { f.CookieMask ^= 1 << i })
	}
	for k, p := range places() {
		for i := range 64 {
			all = append(all, func(f *api.FlowMod) { *p.of(f) ^= 1 << i })
		}
		for _, q := range places()[:k] { // one number's change beside another one's
			all = append(all, func(f *api.FlowMod) { *p.of(f)++; *q.of(f)-- }, func(f *api.FlowMod) { *p.of(f), *q.of(f) = *q.of(f)+1, *p.of(f) })
		}
	}
	return all
}

// changesOf are of each part of f's match, and of each of its instructions, and of their order.
func changesOf(f api.FlowMod) []func(*api.FlowMod) {
	var all []func(*api.FlowMod)
	for k := range f.Match {
		all = append(all, func(f *api.FlowMod) { f.Match[k].Value.Lo ^= 1 }, func(f *api.FlowMod) { f.Match[k].Value.Hi ^= 1 }, func(f *api.FlowMod) { f.Match[k].Mask.Lo ^= 1 },
			func(f *api.FlowMod) { f.Match[k].Masked = !f.Match[k].Masked }, func(f *api.FlowMod) { f.Match[k].Field++ }, func(f *api.FlowMod) { f.Match = slices.Delete(f.Match, k, k+1) })
		if k > 0 && f.Match[k] != f.Match[k-1] {
			all = append(all, func(f *api.FlowMod) { f.Match[k-1], f.Match[k] = f.Match[k], f.Match[k-1] })
		}
	}
	for k := range f.Insts {
		all = append(all, func(f *api.FlowMod) { f.Insts[k].Kind++ }, func(f *api.FlowMod) { f.Insts[k].Table++ }, func(f *api.FlowMod) { f.Insts[k].Value.Lo ^= 1 }, func(f *api.FlowMod) { f.Insts[k].Mask.Hi ^= 1 },
			func(f *api.FlowMod) { f.Insts[k].Acts = append(f.Insts[k].Acts, pop()) }, func(f *api.FlowMod) { f.Insts = slices.Delete(f.Insts, k, k+1) })
		if k > 0 && !equalInsts(f.Insts[k:k+1], f.Insts[k-1:k]) {
			all = append(all, func(f *api.FlowMod) { f.Insts[k-1], f.Insts[k] = f.Insts[k], f.Insts[k-1] })
		}
		for a := range f.Insts[k].Acts {
			all = append(all, func(f *api.FlowMod) { f.Insts[k].Acts[a].Max++ }, func(f *api.FlowMod) { f.Insts[k].Acts[a].Oxm.Value.Lo ^= 2 })
			if a > 0 && f.Insts[k].Acts[a] != f.Insts[k].Acts[a-1] {
				all = append(all, func(f *api.FlowMod) {
					l := f.Insts[k].Acts
					l[a-1], l[a] = l[a], l[a-1]
				})
			}
		}
	}
	return all
}

func TestSame(t *testing.T) { // P17.1, R5
	same := func(a, b api.FlowMod, want bool) {
		t.Helper()
		if flowmod.Same(a, b) != want || flowmod.Same(b, a) != want {
			t.Errorf("Same(%s, %s): not %v", short(a), short(b), want)
		}
	}
	all := append(some(), plain(), api.FlowMod{})
	for _, m := range wrongMatches()[:15] { // what may not be is held together, too
		all = append(all, api.FlowMod{Table: -1, Command: 99, Match: m})
	}
	for _, l := range wrongInsts()[:17] {
		all = append(all, api.FlowMod{Buffer: -1, Flags: -1, Insts: l})
	}
	for i, f := range all {
		for k, g := range all {
			same(f, copied(g), i == k)
		}
		few := changes()
		if i%9 == 0 || i < 9 {
			few = append(few, changesOf(f)...)
		}
		for _, change := range few {
			g := copied(f)
			change(&g)
			same(f, g, false)
		}
	}
	empty := api.FlowMod{Match: []api.Oxm{}, Insts: []api.Inst{}}
	same(api.FlowMod{}, empty, true)
	taken(t, empty)
	same(api.FlowMod{Insts: []api.Inst{apply()}}, api.FlowMod{Insts: []api.Inst{apply([]api.Action{}...)}}, true)
	same(api.FlowMod{Insts: []api.Inst{{Kind: 4}}}, api.FlowMod{Insts: []api.Inst{{Kind: 4, Acts: []api.Action{}}}}, true)
	taken(t, api.FlowMod{Insts: []api.Inst{{Kind: 4, Acts: []api.Action{}}}})
}

// draws answers numbers below n, the same ones each time.
func draws() func(n int) int {
	next := uint64(1)
	return func(n int) int {
		next = next*6364136223846793005 + 1442695040888963407
		return int(next >> 33 % uint64(n))
	}
}

// drawn is a change whose numbers are drawn.
func drawn(draw func(n int) int) api.FlowMod {
	matches, insts := someMatches(), someInsts()
	f := api.FlowMod{Cookie: uint64(draw(1<<31))<<33 + uint64(draw(1<<31)), CookieMask: uint64(draw(1<<31))<<33 + uint64(draw(1<<31))}
	for _, p := range places() {
		*p.of(&f) = (draw(1<<16)<<16 + draw(1<<16)) % (p.most + 1)
	}
	f.Match, f.Insts = matches[draw(len(matches))], insts[draw(len(insts)-1)]
	return f
}

func TestThereAndBack(t *testing.T) { // P17.3
	draw := draws()
	for range 2000 {
		f := drawn(draw)
		b, e := flowmod.Encode(f)
		if got, x := flowmod.Decode(b); e != api.OK || x.Is || !flowmod.Same(got, f) || !equal(got, f) {
			t.Errorf("Decode of Encode of %s: %s, %v", short(f), short(got), x)
		}
	}
}

func TestBackAndThere(t *testing.T) { // P17.3, P4: of bytes that are nearly right, or are
	draw := draws()
	read, not := 0, 0
	for range 30000 {
		b := laid(drawn(draw))
		for range draw(3) {
			b[draw(len(b))] ^= 1 << draw(8)
		}
		f, x := flowmod.Decode(b)
		if x.Is {
			not++
			continue
		}
		read++
		if got, e := flowmod.Encode(f); e != api.OK || !bytes.Equal(got, b) || !flowmod.Right(f) {
			t.Errorf("Encode of Decode of %s: %s, %d", short(b), short(got), e)
		}
	}
	if read < 3000 || not < 3000 {
		t.Errorf("too few of a kind: %d, %d", read, not)
	}
}

// roomy is f with lists that have spare room, and what stands in it.
func roomy(f api.FlowMod) api.FlowMod {
	f = copied(f)
	f.Match = append(f.Match, is(9, 9), is(-1, 3))[:len(f.Match)]
	for i := range f.Insts {
		n := len(f.Insts[i].Acts)
		f.Insts[i].Acts = append(f.Insts[i].Acts, pop(), api.Action{Kind: 77})[:n]
	}
	f.Insts = append(f.Insts, api.Inst{Kind: 77}, api.Inst{Kind: 1, Table: 3})[:len(f.Insts)]
	return f
}

// whole is a copy of f with two of each list's spare room.
func whole(f api.FlowMod) api.FlowMod {
	f.Match = f.Match[:len(f.Match)+2]
	insts := slices.Clone(f.Insts[:len(f.Insts)+2])
	for i := range f.Insts {
		insts[i].Acts = insts[i].Acts[:len(insts[i].Acts)+2]
	}
	f.Insts = insts
	return copied(f)
}

func TestListsStay(t *testing.T) { // R3: what is handed in, and its spare room
	all := append(some(), plain(), api.FlowMod{}, api.FlowMod{Insts: []api.Inst{apply(set(2), set(9))}})
	for _, m := range wrongMatches() {
		all = append(all, api.FlowMod{Match: m})
	}
	for _, l := range wrongInsts() {
		all = append(all, api.FlowMod{Insts: l})
	}
	for _, f := range all {
		a, b := roomy(f), roomy(f)
		was := whole(a)
		flowmod.Check(a)
		flowmod.Right(a)
		flowmod.Same(a, b)
		flowmod.Same(b, a)
		kept, e := flowmod.Encode(a)
		if !equal(whole(a), was) || !equal(whole(b), was) {
			t.Errorf("a change was changed: %s", short(a))
		}
		clear(a.Match[:cap(a.Match)])
		for _, i := range a.Insts {
			clear(i.Acts[:cap(i.Acts)])
		}
		clear(a.Insts[:cap(a.Insts)])
		if again, g := flowmod.Encode(b); g != e || !bytes.Equal(again, kept) {
			t.Errorf("Encode of the same: %s and %s", short(kept), short(again))
		}
	}
}

func TestBytesStay(t *testing.T) { // R3: what is handed in, and its spare room
	all := [][]byte{nil, make([]byte, 39), slices.Concat(laid(plain()), []byte{1}), laid(api.FlowMod{Command: 5}), laid(api.FlowMod{Insts: []api.Inst{apply(set(9))}})}
	for _, m := range badMatches() {
		all = append(all, slices.Concat(make([]byte, 40), m.b))
	}
	for _, i := range badInsts() {
		all = append(all, slices.Concat(make([]byte, 40), matchBytes(), i.b))
	}
	for _, f := range append(some(), plain()) {
		all = append(all, laid(f))
	}
	for _, b := range all {
		room := slices.Concat(b, instBytes(api.Inst{Kind: 5}), matchBytes(is(0, 1)))
		was := slices.Clone(room)
		f, x := flowmod.Decode(room[:len(b)])
		if !bytes.Equal(room, was) {
			t.Errorf("Decode changed b's memory: %s", short(room))
		}
		clear(room)
		if again, y := flowmod.Decode(slices.Clone(b)); y != x || !equal(again, f) {
			t.Errorf("Decode of the same: %s, %v, and %s, %v", short(f), x, short(again), y)
		}
	}
}

func TestAnswersAreApart(t *testing.T) { // R3, R4
	for _, f := range append(some(), plain()) {
		b := laid(f)
		kept, _ := flowmod.Encode(f)
		other, _ := flowmod.Encode(f)
		other = other[:cap(other)]
		for i := range other {
			other[i] = 0xEE
		}
		if !bytes.Equal(kept, b) {
			t.Errorf("Encode shares its answers: %s", short(kept))
		}
		read, _ := flowmod.Decode(b)
		more, _ := flowmod.Decode(b)
		clear(more.Match[:cap(more.Match)])
		for i := range more.Insts { // not with another answer, and not one instruction's with another one's
			clear(more.Insts[i].Acts[:cap(more.Insts[i].Acts)])
			for k := i + 1; k < len(more.Insts); k++ {
				if !slices.Equal(more.Insts[k].Acts, f.Insts[k].Acts) {
					t.Errorf("Decode shares actions of %d and %d", i, k)
				}
			}
		}
		clear(more.Insts[:cap(more.Insts)])
		if !equal(read, f) {
			t.Errorf("Decode shares its answers: %s", short(read))
		}
	}
}
