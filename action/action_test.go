package action_test

import (
	"bytes"
	"math"
	"slices"
	"testing"

	"weirbox/action"
	"weirbox/api"
)

// The fields' table, written out anew: what the tests hold the answers against hangs on no layer.
var (
	idOf    = [api.Fields]int{0, 2, 3, 4, 5, 6, 7, 8, 9, 10, 11, 12, 13, 14, 15, 16, 19, 20, 21, 22, 23, 26, 27, 34}
	bitsOf  = [api.Fields]int{32, 64, 48, 48, 16, 13, 3, 6, 2, 8, 32, 32, 16, 16, 16, 16, 8, 8, 16, 32, 32, 128, 128, 20}
	bytesOf = [api.Fields]int{4, 8, 6, 6, 2, 2, 1, 1, 1, 1, 4, 4, 2, 2, 2, 2, 1, 1, 2, 4, 4, 16, 16, 3}
	masksOf = [api.Fields]bool{1: true, 2: true, 3: true, 5: true, 10: true, 11: true, 19: true, 20: true, 21: true, 22: true}
)

// The kinds' numbers, and those of the protocol, written out anew, too.
const (
	output = 0
	push   = 17
	pop    = 18
	group  = 22
	set    = 25

	lastPort   = 0xFFFFFF00
	controller = 0xFFFFFFFD
)

// none are fields that are none.
var none = []int{math.MinInt, -1 << 32, -24, -1, 24, 25, 34, 48, 255, 256, 1 << 32, math.MaxInt}

var whole = api.Wide{Hi: math.MaxUint64, Lo: math.MaxUint64}

func at(i int) api.Wide {
	if i < 64 {
		return api.Wide{Lo: 1 << i}
	}
	return api.Wide{Hi: 1 << (i - 64)}
}

func xor(a, b api.Wide) api.Wide { return api.Wide{Hi: a.Hi ^ b.Hi, Lo: a.Lo ^ b.Lo} }

// low is the n lowest bits.
func low(n int) api.Wide {
	var a api.Wide
	for i := range n {
		a = xor(a, at(i))
	}
	return a
}

func outTo(port, most int) api.Action { return api.Action{Kind: output, Port: port, Max: most} }
func groupOf(id int) api.Action       { return api.Action{Kind: group, Group: id} }
func pushOf(ether int) api.Action     { return api.Action{Kind: push, Ether: ether} }
func setOf(o api.Oxm) api.Action      { return api.Action{Kind: set, Oxm: o} }

// is is the part by which f gets the value.
func is(f int, value uint64) api.Oxm { return api.Oxm{Field: f, Value: api.Wide{Lo: value}} }

// spell is the size lowest bytes of a, the highest first.
func spell(a api.Wide, size int) []byte {
	var b []byte
	for k := size - 1; k >= 0; k-- {
		half := a.Lo
		if k >= 8 {
			half = a.Hi
		}
		b = append(b, byte(half>>(8*(k%8))))
	}
	return b
}

// partBytes is o's bytes, whether it may be or not.
func partBytes(o api.Oxm) []byte {
	size := bytesOf[o.Field]
	if !o.Masked {
		return append([]byte{0x80, 0, byte(2 * idOf[o.Field]), byte(size)}, spell(o.Value, size)...)
	}
	b := append([]byte{0x80, 0, byte(2*idOf[o.Field] + 1), byte(2 * size)}, spell(o.Value, size)...)
	return append(b, spell(o.Mask, size)...)
}

// lay is an action of a kind and a length that has the bytes, with noughts up to the length.
func lay(kind, length int, body ...byte) []byte {
	b := append([]byte{byte(kind >> 8), byte(kind), byte(length >> 8), byte(length)}, body...)
	for len(b) < length {
		b = append(b, 0)
	}
	return b
}

// laySet is an action that sets, as long as its part needs.
func laySet(part ...byte) []byte {
	n := 4 + len(part)
	for n%8 != 0 {
		n++
	}
	return lay(set, n, part...)
}

// bytesFor is a's bytes by the chapter's words, whether it may be or not.
func bytesFor(a api.Action) []byte {
	four := func(n int) []byte { return spell(api.Wide{Lo: uint64(n)}, 4) }
	switch a.Kind {
	case output:
		return lay(output, 16, append(four(a.Port), byte(a.Max>>8), byte(a.Max))...)
	case group:
		return lay(group, 8, four(a.Group)...)
	case push:
		return lay(push, 8, byte(a.Ether>>8), byte(a.Ether))
	case set:
		return laySet(partBytes(a.Oxm)...)
	}
	return lay(a.Kind, 8)
}

// rights are actions that may be: of each kind, with each number at its least and its greatest.
func rights() []api.Action {
	all := []api.Action{{Kind: pop}, pushOf(0x8100), pushOf(0x88A8)}
	for _, port := range []int{1, 2, 255, 256, 65536, 0x01020304, 1 << 31, lastPort - 1, lastPort, controller} {
		all = append(all, outTo(port, 0))
	}
	for _, most := range []int{1, 128, 255, 256, 0x1234, 65534, 65535} {
		all = append(all, outTo(controller, most))
	}
	for _, id := range []int{0, 1, 255, 256, 0x01020304, 1 << 31, lastPort - 1, lastPort} {
		all = append(all, groupOf(id))
	}
	for f, bits := range bitsOf {
		if f == 0 || f == 1 {
			continue
		}
		all = append(all, setOf(api.Oxm{Field: f}), setOf(api.Oxm{Field: f, Value: low(bits)}))
		for i := range bits {
			all = append(all, setOf(api.Oxm{Field: f, Value: at(i)}))
		}
	}
	return all
}

// beyond are actions of which a number is one that it may not be.
func beyond() []api.Action {
	var all []api.Action
	for _, port := range []int{math.MinInt, -1 << 32, -1, 0, lastPort + 1, 0xFFFFFFF8, 0xFFFFFFFB, controller - 1, controller + 1, 0xFFFFFFFF, 1 << 32, 1<<32 + 1, 1<<32 + controller, math.MaxInt} {
		all = append(all, outTo(port, 0), outTo(port, 1), outTo(port, 65535))
	}
	for _, most := range []int{math.MinInt, -65536, -1, 65536, 65537, 1 << 32, math.MaxInt} {
		all = append(all, outTo(controller, most), outTo(1, most))
	}
	for _, most := range []int{1, 128, 65535} {
		all = append(all, outTo(1, most), outTo(lastPort, most), outTo(7, most))
	}
	for _, id := range []int{math.MinInt, -1 << 32, -1, lastPort + 1, 0xFFFFFFFC, 0xFFFFFFFF, 1 << 32, 1<<32 + 1, math.MaxInt} {
		all = append(all, groupOf(id))
	}
	for _, ether := range []int{math.MinInt, -0x8100, -1, 0, 1, 0x80FF, 0x8101, 0x88A7, 0x88A9, 0x88E7, 0x8847, 0x0800, 0xFFFF, 0x18100, 1<<32 + 0x8100, math.MaxInt} {
		all = append(all, pushOf(ether))
	}
	for _, kind := range []int{math.MinInt, -25, -1, 1, 11, 12, 15, 16, 19, 20, 21, 23, 24, 26, 27, 0xFFFF, 65536, 65536 + pop, 1<<32 + pop, math.MaxInt} {
		all = append(all, api.Action{Kind: kind}, api.Action{Kind: kind, Port: 1}, api.Action{Kind: kind, Ether: 0x8100})
	}
	return append(all, wrongSets()...)
}

// wrongSets are actions that set what may not be set, or to what it may not be.
func wrongSets() []api.Action {
	var all []api.Action
	for _, f := range none {
		all = append(all, setOf(is(f, 0)), setOf(is(f, 1)))
	}
	for f, bits := range bitsOf {
		full := low(bits)
		all = append(all, setOf(api.Oxm{Field: f, Masked: true, Value: at(0), Mask: full}), setOf(api.Oxm{Field: f, Masked: true}), setOf(api.Oxm{Field: f, Masked: true, Mask: at(0)}))
		all = append(all, setOf(api.Oxm{Field: f, Mask: full}), setOf(api.Oxm{Field: f, Value: at(0), Mask: at(0)}))
		for i := bits; i < 128; i++ {
			all = append(all, setOf(api.Oxm{Field: f, Value: at(i)}), setOf(api.Oxm{Field: f, Value: xor(full, at(i))}))
		}
		if f == 0 || f == 1 {
			all = append(all, setOf(api.Oxm{Field: f}), setOf(api.Oxm{Field: f, Value: full}))
		}
	}
	return all
}

// others are a with one number that its kind has not.
func others(a api.Action) []api.Action {
	var all []api.Action
	add := func(change func(*api.Action)) {
		b := a
		change(&b)
		all = append(all, b)
	}
	if a.Kind != output {
		add(func(b *api.Action) { b.Port = 1 })
		add(func(b *api.Action) { b.Port = -1 })
		add(func(b *api.Action) { b.Max = 1 })
	}
	if a.Kind != group {
		add(func(b *api.Action) { b.Group = 1 })
	}
	if a.Kind != push {
		add(func(b *api.Action) { b.Ether = 0x8100 })
	}
	if a.Kind != set {
		add(func(b *api.Action) { b.Oxm.Field = api.EthDst })
		add(func(b *api.Action) { b.Oxm.Masked = true })
		add(func(b *api.Action) { b.Oxm.Value.Hi = 1 })
		add(func(b *api.Action) { b.Oxm.Value.Lo = 1 })
		add(func(b *api.Action) { b.Oxm.Mask.Hi = 1 })
		add(func(b *api.Action) { b.Oxm.Mask.Lo = 1 })
	}
	return all
}

func TestSets(t *testing.T) { // P12.1
	for f := range api.Fields {
		if got := action.Sets(f); got != (f != 0 && f != 1) {
			t.Errorf("Sets(%d): %v", f, got)
		}
	}
	if action.Sets(api.InPort) || action.Sets(api.Metadata) || !action.Sets(api.EthDst) || !action.Sets(api.MPLSLabel) {
		t.Error("Sets of InPort, Metadata, EthDst, MPLSLabel")
	}
	for _, f := range none {
		if action.Sets(f) {
			t.Errorf("Sets(%d): true", f)
		}
	}
}

func TestRight(t *testing.T) { // P12.1
	for _, a := range rights() {
		if !action.Right(a) {
			t.Errorf("Right(%v): false", a)
		}
		for _, b := range others(a) {
			if action.Right(b) {
				t.Errorf("Right(%v): true", b)
			}
		}
	}
	for _, a := range beyond() {
		if action.Right(a) {
			t.Errorf("Right(%v): true", a)
		}
	}
	if action.Right(api.Action{}) {
		t.Error("Right of an output to port 0: true")
	}
}

func TestByName(t *testing.T) { // P12.1: api's kinds, told without a second reckoning
	for _, a := range []api.Action{
		{Kind: api.ActOutput, Port: 1}, {Kind: api.ActOutput, Port: api.PortMax}, {Kind: api.ActOutput, Port: api.PortController, Max: 65535},
		{Kind: api.ActGroup}, {Kind: api.ActGroup, Group: api.GroupMax}, {Kind: api.ActPush, Ether: 0x8100}, {Kind: api.ActPop},
		{Kind: api.ActSet, Oxm: api.Oxm{Field: api.IPv6Dst, Value: whole}},
	} {
		if !action.Right(a) {
			t.Errorf("Right(%v): false", a)
		}
	}
	for _, a := range []api.Action{
		{Kind: api.ActOutput, Port: api.PortMax + 1}, {Kind: api.ActOutput, Port: api.PortAny}, {Kind: api.ActOutput, Port: api.PortMax, Max: 1},
		{Kind: api.ActGroup, Group: api.GroupAll}, {Kind: api.ActGroup, Group: api.GroupAny}, {Kind: api.ActPush, Ether: 0x8847}, {Kind: api.ActPop, Ether: 0x8100},
		{Kind: api.ActSet, Oxm: is(api.InPort, 1)}, {Kind: api.ActSet, Oxm: is(api.Metadata, 1)}, {Kind: api.ActSet, Oxm: is(api.VlanVid, 0x2000)},
	} {
		if action.Right(a) {
			t.Errorf("Right(%v): true", a)
		}
	}
}

func TestEncode(t *testing.T) { // P12.2
	for _, a := range rights() {
		if b, e := action.Encode(a); e != api.OK || !bytes.Equal(b, bytesFor(a)) {
			t.Errorf("Encode(%v): %x, %d, want %x", a, b, e, bytesFor(a))
		}
		for _, c := range others(a) {
			if b, e := action.Encode(c); e != api.ErrArg || len(b) != 0 {
				t.Errorf("Encode(%v): %x, %d", c, b, e)
			}
		}
	}
	for _, a := range beyond() {
		if b, e := action.Encode(a); e != api.ErrArg || len(b) != 0 {
			t.Errorf("Encode(%v): %x, %d", a, b, e)
		}
	}
}

// spelt are actions with their bytes, told without a second reckoning: of each kind, and with each number of noughts behind a part.
var spelt = []struct {
	a api.Action
	b []byte
}{
	{api.Action{Kind: api.ActPop}, []byte{0, 0x12, 0, 8, 0, 0, 0, 0}},
	{api.Action{Kind: api.ActPush, Ether: 0x8100}, []byte{0, 0x11, 0, 8, 0x81, 0, 0, 0}},
	{api.Action{Kind: api.ActPush, Ether: 0x88A8}, []byte{0, 0x11, 0, 8, 0x88, 0xA8, 0, 0}},
	{api.Action{Kind: api.ActGroup, Group: 0x01020304}, []byte{0, 0x16, 0, 8, 1, 2, 3, 4}},
	{api.Action{Kind: api.ActGroup, Group: api.GroupMax}, []byte{0, 0x16, 0, 8, 0xFF, 0xFF, 0xFF, 0}},
	{api.Action{Kind: api.ActOutput, Port: 0x01020304}, []byte{0, 0, 0, 16, 1, 2, 3, 4, 0, 0, 0, 0, 0, 0, 0, 0}},
	{api.Action{Kind: api.ActOutput, Port: api.PortMax}, []byte{0, 0, 0, 16, 0xFF, 0xFF, 0xFF, 0, 0, 0, 0, 0, 0, 0, 0, 0}},
	{api.Action{Kind: api.ActOutput, Port: api.PortController, Max: 0x1234}, []byte{0, 0, 0, 16, 0xFF, 0xFF, 0xFF, 0xFD, 0x12, 0x34, 0, 0, 0, 0, 0, 0}},
	{api.Action{Kind: api.ActSet, Oxm: is(api.EthDst, 7)}, []byte{0, 25, 0, 16, 0x80, 0, 6, 6, 0, 0, 0, 0, 0, 7, 0, 0}},
	{api.Action{Kind: api.ActSet, Oxm: is(api.EthType, 0x0800)}, []byte{0, 25, 0, 16, 0x80, 0, 10, 2, 8, 0, 0, 0, 0, 0, 0, 0}},
	{api.Action{Kind: api.ActSet, Oxm: is(api.IPv4Src, 0x0A000001)}, []byte{0, 25, 0, 16, 0x80, 0, 22, 4, 10, 0, 0, 1, 0, 0, 0, 0}},
	{api.Action{Kind: api.ActSet, Oxm: is(api.VlanPcp, 5)}, []byte{0, 25, 0, 16, 0x80, 0, 14, 1, 5, 0, 0, 0, 0, 0, 0, 0}},
	{api.Action{Kind: api.ActSet, Oxm: is(api.MPLSLabel, 0xABCDE)}, []byte{0, 25, 0, 16, 0x80, 0, 68, 3, 0x0A, 0xBC, 0xDE, 0, 0, 0, 0, 0}},
	{api.Action{Kind: api.ActSet, Oxm: api.Oxm{Field: api.IPv6Src, Value: api.Wide{Hi: 1, Lo: 2}}}, []byte{0, 25, 0, 24, 0x80, 0, 52, 16, 0, 0, 0, 0, 0, 0, 0, 1, 0, 0, 0, 0, 0, 0, 0, 2}},
}

func TestSpelt(t *testing.T) { // P12.2
	for _, one := range spelt {
		if b, e := action.Encode(one.a); e != api.OK || !bytes.Equal(b, one.b) {
			t.Errorf("Encode(%v): %x, %d", one.a, b, e)
		}
		if a, n, f := action.Decode(one.b); a != one.a || n != len(one.b) || f != (api.Fault{}) {
			t.Errorf("Decode(%x): %v, %d, %v", one.b, a, n, f)
		}
	}
}

func TestSame(t *testing.T) { // P12.1: they are otherwise in just one thing
	a := api.Action{Kind: 1, Port: 2, Max: 3, Group: 4, Ether: 5, Oxm: api.Oxm{Field: 6, Masked: true, Value: api.Wide{Hi: 7, Lo: 8}, Mask: api.Wide{Hi: 9, Lo: 10}}}
	var all [11]api.Action
	for k := range all {
		all[k] = a
	}
	all[0].Kind++
	all[1].Port++
	all[2].Max++
	all[3].Group++
	all[4].Ether++
	all[5].Oxm.Field++
	all[6].Oxm.Masked = false
	all[7].Oxm.Value.Hi++
	all[8].Oxm.Value.Lo++
	all[9].Oxm.Mask.Hi++
	all[10].Oxm.Mask.Lo++
	for k, b := range all {
		if !action.Same(b, b) || action.Same(a, b) || action.Same(b, a) {
			t.Errorf("Same(%v, %v), %d", a, b, k)
		}
	}
	if !action.Same(api.Action{}, api.Action{}) || !action.Same(a, a) {
		t.Error("Same of the same: false")
	}
	for i, a := range rights() {
		for j, b := range rights() {
			if got := action.Same(a, b); got != (i == j) {
				t.Errorf("Same(%v, %v): %v", a, b, got)
			}
		}
	}
}

func TestDecode(t *testing.T) { // P12.2: bytes that stand behind do nothing
	for _, a := range rights() {
		b := bytesFor(a)
		for _, behind := range [][]byte{nil, {0}, {0xFF}, spelt[0].b, bytes.Repeat([]byte{7}, 300)} {
			if got, n, f := action.Decode(slices.Concat(b, behind)); got != a || n != len(b) || f != (api.Fault{}) {
				t.Errorf("Decode(%x) with %d bytes behind: %v, %d, %v", b, len(behind), got, n, f)
			}
		}
	}
}

func refused(t *testing.T, b []byte, code int) {
	t.Helper()
	if a, n, f := action.Decode(b); a != (api.Action{}) || n != 0 || f != (api.Fault{Is: true, Type: 2, Code: code}) {
		t.Errorf("Decode(%x): %v, %d, %v, want (2, %d)", b, a, n, f, code)
	}
}

func TestDecodeOfTooFew(t *testing.T) { // P12.2: whatever the kind is
	refused(t, nil, 1)
	refused(t, []byte{}, 1)
	for _, a := range rights() {
		b := bytesFor(a)
		for n := range len(b) {
			refused(t, b[:n], 1)
		}
		b[0] = 1
		for n := range len(b) {
			refused(t, b[:n], 1)
		}
		refused(t, b, 0)
	}
}

func TestDecodeOfLengths(t *testing.T) { // P12.2: below 8, no multiple of 8, beyond, of another kind
	for _, kind := range []int{output, push, pop, group, set, 9, 0xFFFF} {
		for length := range 8 {
			refused(t, lay(kind, length, make([]byte, 60)...), 1)
		}
		for length := 8; length < 200; length++ {
			// One byte too few; as many as it says; and more.
			refused(t, lay(kind, length)[:length-1], 1)
			if length%8 != 0 {
				refused(t, lay(kind, length), 1)
				refused(t, lay(kind, length, make([]byte, 300)...), 1)
			}
		}
		for _, length := range []int{65521, 65529, 65535} {
			refused(t, lay(kind, length, make([]byte, 65536)...), 1)
		}
		refused(t, lay(kind, 65528)[:65527], 1)
	}
	for _, one := range spelt {
		own := len(one.b)
		for length := 8; length <= 65528; length *= 2 {
			b := append(bytes.Clone(one.b), make([]byte, 65536)...)
			b[2], b[3] = byte(length>>8), byte(length)
			switch {
			case length == own:
				continue
			case one.a.Kind == set && length < own:
				refused(t, b, 14) // the part is cut off
			default:
				refused(t, b, 1)
			}
		}
	}
	refused(t, lay(output, 8, 0, 0, 0, 1), 1)
	refused(t, lay(output, 24, 0, 0, 0, 1), 1)
	refused(t, lay(pop, 16), 1)
	refused(t, lay(group, 16, 0, 0, 0, 1), 1)
	refused(t, lay(push, 16, 0x81, 0), 1)
}

func TestDecodeOfEachKind(t *testing.T) { // P12.2: kinds that are none, whatever else is wrong
	for kind := range 65536 {
		if slices.Contains([]int{output, push, pop, group, set}, kind) {
			continue
		}
		refused(t, lay(kind, 8), 0)
		refused(t, lay(kind, 16, 0xFF, 0xFF, 0xFF, 0xFF, 0xFF, 0xFF, 0xFF, 0xFF, 0xFF, 0xFF, 0xFF, 0xFF), 0)
		refused(t, lay(kind, 24, 0x80, 0, 6), 0)
	}
}

func TestDecodeOfNoughts(t *testing.T) { // P12.2: each of them, each bit
	for _, one := range spelt {
		from := 0
		switch one.a.Kind {
		case output:
			from = 10
		case group:
			from = 8
		case push:
			from = 6
		case pop:
			from = 4
		case set:
			from = 8 + bytesOf[one.a.Oxm.Field]
		}
		for i := from; i < len(one.b); i++ {
			for bit := range 8 {
				b := bytes.Clone(one.b)
				b[i] = 1 << bit
				refused(t, b, 5)
				refused(t, append(b, 0, 0, 0), 5)
			}
		}
	}
}

func TestDecodeOfNumbers(t *testing.T) { // P12.2: those that may not be, with noughts that are
	for _, port := range []int{0, lastPort + 1, 0xFFFFFFF8, 0xFFFFFFFB, controller - 1, controller + 1, 0xFFFFFFFF} {
		for _, most := range []int{0, 1, 65535} {
			refused(t, bytesFor(outTo(port, most)), 4) // ahead of Max
		}
	}
	for _, port := range []int{1, 2, 1 << 31, lastPort} {
		for _, most := range []int{1, 128, 256, 0x8000, 65535} {
			refused(t, bytesFor(outTo(port, most)), 5)
		}
	}
	for _, id := range []int{lastPort + 1, lastPort + 2, 0xFFFFFFFC, 0xFFFFFFFF} {
		refused(t, bytesFor(groupOf(id)), 9)
	}
	for ether := range 65536 {
		if ether != 0x8100 && ether != 0x88A8 {
			refused(t, bytesFor(pushOf(ether)), 5)
		}
	}
}

func TestDecodeOfSets(t *testing.T) { // P12.2: a part that is right, but may not be set
	for f, bits := range bitsOf {
		full := low(bits)
		for _, v := range []api.Wide{{}, at(0), full} {
			if f == 0 || f == 1 {
				refused(t, bytesFor(setOf(api.Oxm{Field: f, Value: v})), 13)
			}
			if !masksOf[f] {
				refused(t, bytesFor(setOf(api.Oxm{Field: f, Masked: true, Value: v, Mask: full})), 15)
				continue
			}
			code := 15
			if f == 1 {
				code = 13 // which field it is comes ahead of the mask
			}
			refused(t, bytesFor(setOf(api.Oxm{Field: f, Masked: true, Value: v, Mask: full})), code)
			refused(t, bytesFor(setOf(api.Oxm{Field: f, Masked: true, Mask: at(0)})), code)
		}
	}
}

func TestDecodeOfWrongParts(t *testing.T) { // P12.2: each fault of a part
	for _, one := range []struct {
		part []byte
		code int
	}{
		{[]byte{0x80, 0, 0, 4}, 14}, {[]byte{0x80, 0, 6, 6}, 14}, {[]byte{0, 0, 0, 255}, 14}, // cut off
		{[]byte{0x80, 0, 6, 5, 0, 0, 0, 0, 0}, 14}, {[]byte{0x80, 0, 6, 7, 0, 0, 0, 0, 0, 0, 0}, 14}, {[]byte{0x80, 0, 12, 0}, 14}, // another number of bytes
		{[]byte{0x80, 0, 7, 6, 0, 0, 0, 0, 0, 1}, 14}, {[]byte{0x80, 0, 4, 4, 0, 0, 0, 0}, 14},
		{[]byte{0x80, 1, 6, 6, 0, 0, 0, 0, 0, 0}, 13}, {[]byte{0, 0, 0, 0}, 13}, {[]byte{0xFF, 0xFF, 6, 6, 0, 0, 0, 0, 0, 0}, 13}, // no class
		{[]byte{0x80, 0, 2, 4, 0, 0, 0, 0}, 13}, {[]byte{0x80, 0, 255, 0}, 13}, // no field
		{[]byte{0x80, 0, 11, 4, 8, 0, 0xFF, 0xFF}, 15}, {[]byte{0x80, 0, 1, 8, 0, 0, 0, 0, 0, 0, 0, 1}, 15}, {[]byte{0x80, 0, 15, 0}, 15}, // masked, and may not be
		{[]byte{0x80, 0, 12, 2, 0x20, 0}, 15}, {[]byte{0x80, 0, 14, 1, 8}, 15}, {[]byte{0x80, 0, 68, 3, 0x10, 0, 0}, 15}, // bits beyond
		{[]byte{0x80, 0, 13, 4, 0, 0, 0, 0}, 15}, {[]byte{0x80, 0, 13, 4, 0, 0, 0x20, 0}, 15}, // a mask of no bits, or beyond
		{[]byte{0x80, 0, 13, 4, 0, 1, 0, 2}, 15}, {[]byte{0x80, 0, 5, 16, 0, 0, 0, 0, 0, 0, 0, 1, 0, 0, 0, 0, 0, 0, 0, 2}, 15}, // beside the mask
	} {
		b := laySet(one.part...)
		refused(t, b, one.code)
		refused(t, append(b, 0, 0, 0, 0, 0, 0, 0, 0), one.code) // more bytes behind are none of its own
		if one.code == 14 {
			continue
		}
		// Ahead of a length that is another one, and of noughts that are none.
		b = append(laySet(one.part...), make([]byte, 8)...)
		b[3] += 8
		refused(t, b, one.code)
		b[len(b)-1] = 1
		refused(t, b, one.code)
	}
}

func TestWhichFaultComesFirst(t *testing.T) { // P12.2: two at once, told without a second reckoning
	for _, one := range []struct {
		b    []byte
		code int
	}{
		{[]byte{0, 9, 0, 7, 0, 0, 0, 0}, 1},                                                        // below 8, and no kind
		{[]byte{0, 9, 0, 9, 0, 0, 0, 0}, 1},                                                        // no multiple of 8, and beyond, and no kind
		{[]byte{0, 9, 0, 16, 0, 0, 0, 0}, 1},                                                       // beyond, and no kind
		{[]byte{0, 9, 0, 8, 0, 0, 0, 1}, 0},                                                        // no kind, and no noughts
		{[]byte{0, 18, 0, 16, 0, 0, 0, 1, 0, 0, 0, 0, 0, 0, 0, 0}, 1},                              // another length, and no noughts
		{[]byte{0, 0, 0, 8, 0, 0, 0, 0}, 1},                                                        // another length, and no port
		{[]byte{0, 22, 0, 16, 0xFF, 0xFF, 0xFF, 0xFF, 0, 0, 0, 0, 0, 0, 0, 0}, 1},                  // another length, and no group
		{[]byte{0, 17, 0, 16, 0, 0, 0, 0, 0, 0, 0, 0, 0, 0, 0, 0}, 1},                              // another length, and no tag
		{[]byte{0, 0, 0, 16, 0, 0, 0, 0, 0, 0, 0, 0, 0, 0, 0, 1}, 5},                               // no noughts, and no port
		{[]byte{0, 0, 0, 16, 0, 0, 0, 0, 0, 1, 0, 0, 0, 0, 0, 0}, 4},                               // no port, and no Max
		{[]byte{0, 0, 0, 16, 0, 0, 0, 1, 0, 1, 1, 0, 0, 0, 0, 0}, 5},                               // no Max, and no noughts
		{[]byte{0, 17, 0, 8, 0, 0, 0, 1}, 5},                                                       // no tag, and no noughts
		{[]byte{0, 25, 0, 24, 0x80, 0, 0, 4, 0, 0, 0, 1, 0, 0, 0, 0, 0, 0, 0, 0, 0, 0, 0, 0}, 1},   // another length, and in_port
		{[]byte{0, 25, 0, 24, 0x80, 0, 13, 4, 0, 1, 0, 1, 0, 0, 0, 0, 0, 0, 0, 0, 0, 0, 0, 1}, 1},  // another length, no noughts, masked
		{[]byte{0, 25, 0, 16, 0x80, 0, 0, 4, 0, 0, 0, 1, 0, 0, 0, 1}, 5},                           // no noughts, and in_port
		{[]byte{0, 25, 0, 16, 0x80, 0, 13, 4, 0, 1, 0, 1, 1, 0, 0, 0}, 5},                          // no noughts, and masked
		{[]byte{0, 25, 0, 16, 0x80, 0, 1, 8, 0, 0, 0, 1, 0, 0, 0, 1}, 15},                          // in_port may not be masked: oxm tells
		{[]byte{0, 25, 0, 24, 0x80, 0, 5, 16, 0, 0, 0, 0, 0, 0, 0, 1, 0, 0, 0, 0, 0, 0, 0, 1}, 13}, // metadata, and masked
		{[]byte{0, 25, 0, 8, 0x80, 0, 2, 1}, 14},                                                   // cut off, and no field
		{[]byte{0, 25, 0, 8, 0x80, 0, 2, 0}, 13},                                                   // no field, and no bytes
		{[]byte{0, 25, 0, 8, 0x80, 0, 6, 6, 0, 0, 0, 0, 0, 7, 0, 0}, 14},                           // the length ends within the part
	} {
		refused(t, one.b, one.code)
	}
}

func TestThereAndBack(t *testing.T) { // P12.3
	for _, a := range rights() {
		b, e := action.Encode(a)
		if got, n, f := action.Decode(b); e != api.OK || !action.Same(got, a) || n != len(b) || f.Is {
			t.Errorf("Decode of Encode of %v: %v, %d, %v", a, got, n, f)
		}
	}
}

func TestBackAndThere(t *testing.T) { // P12.3: of bytes that are nearly right, or are
	next := uint64(1)
	draw := func(n int) int {
		next = next*6364136223846793005 + 1442695040888963407
		return int(next >> 33 % uint64(n))
	}
	all := rights()
	read, not := 0, 0
	for range 60000 {
		var b []byte
		if draw(2) == 0 {
			b = bytes.Clone(spelt[draw(len(spelt))].b)
		} else {
			b = bytesFor(all[draw(len(all))])
		}
		for range draw(3) {
			b[draw(len(b))] ^= 1 << draw(8)
		}
		b = append(b, byte(draw(256)))
		a, n, f := action.Decode(b)
		if f.Is {
			not++
			continue
		}
		read++
		if got, e := action.Encode(a); e != api.OK || !action.Right(a) || n > len(b) || !bytes.Equal(got, b[:n]) {
			t.Errorf("Encode of Decode of %x: %x, %d", b, got, e)
		}
	}
	if read < 5000 || not < 5000 {
		t.Errorf("too few of a kind: %d, %d", read, not)
	}
}

func TestNothingChangedOrKept(t *testing.T) { // R3, R4
	for _, one := range spelt {
		wrong := bytes.Clone(one.b)
		wrong[len(wrong)-1] = 0xFF
		for _, b := range [][]byte{one.b, one.b[:len(one.b)-1], wrong, append(bytes.Clone(one.b), 9)} {
			room := append(bytes.Clone(b), make([]byte, 40)...)
			was := bytes.Clone(room)
			// What stands in the spare room is none of b's bytes.
			a, n, f := action.Decode(room[:len(b)])
			if !bytes.Equal(room, was) {
				t.Errorf("Decode changed b's memory: %x", room)
			}
			clear(room)
			if again, m, g := action.Decode(bytes.Clone(b)); again != a || m != n || g != f {
				t.Errorf("Decode of the same: %v, %d, %v, and %v, %d, %v", a, n, f, again, m, g)
			}
		}
		kept, _ := action.Encode(one.a)
		other, _ := action.Encode(one.a)
		other = other[:cap(other)]
		for i := range other {
			other[i] = 0xEE
		}
		if !bytes.Equal(kept, one.b) {
			t.Errorf("Encode shares its answers: %x", kept)
		}
	}
}
