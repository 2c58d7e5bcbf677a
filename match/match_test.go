package match_test

import (
	"bytes"
	"math"
	"slices"
	"testing"

	"weirbox/api"
	"weirbox/match"
)

// The fields' table, written out anew: what the tests hold the answers against hangs on no layer.
var (
	idOf    = [api.Fields]int{0, 2, 3, 4, 5, 6, 7, 8, 9, 10, 11, 12, 13, 14, 15, 16, 19, 20, 21, 22, 23, 26, 27, 34}
	bitsOf  = [api.Fields]int{32, 64, 48, 48, 16, 13, 3, 6, 2, 8, 32, 32, 16, 16, 16, 16, 8, 8, 16, 32, 32, 128, 128, 20}
	bytesOf = [api.Fields]int{4, 8, 6, 6, 2, 2, 1, 1, 1, 1, 4, 4, 2, 2, 2, 2, 1, 1, 2, 4, 4, 16, 16, 3}
	masksOf = [api.Fields]bool{1: true, 2: true, 3: true, 5: true, 10: true, 11: true, 19: true, 20: true, 21: true, 22: true}
)

// want is what a field needs: without values, any.
type want struct {
	field  int
	values []uint64
}

func ether(values ...uint64) want { return want{4, values} }

// wants are each field's needs.
var wants = [api.Fields][]want{
	6:  {{5, nil}},
	7:  {ether(0x0800, 0x86DD)},
	8:  {ether(0x0800, 0x86DD)},
	9:  {ether(0x0800, 0x86DD)},
	10: {ether(0x0800)},
	11: {ether(0x0800)},
	12: {ether(0x0800, 0x86DD), {9, []uint64{6}}},
	13: {ether(0x0800, 0x86DD), {9, []uint64{6}}},
	14: {ether(0x0800, 0x86DD), {9, []uint64{17}}},
	15: {ether(0x0800, 0x86DD), {9, []uint64{17}}},
	16: {ether(0x0800), {9, []uint64{1}}},
	17: {ether(0x0800), {9, []uint64{1}}},
	18: {ether(0x0806)},
	19: {ether(0x0806)},
	20: {ether(0x0806)},
	21: {ether(0x86DD)},
	22: {ether(0x86DD)},
	23: {ether(0x8847, 0x8848)},
}

// none are fields that are none.
var none = []int{math.MinInt, -1 << 32, -24, -1, 24, 25, 34, 48, 255, 256, 1 << 32, math.MaxInt}

var whole = api.Wide{Hi: math.MaxUint64, Lo: math.MaxUint64}

func at(i int) api.Wide {
	if i < 64 {
		return api.Wide{Lo: 1 << i}
	}
	return api.Wide{Hi: 1 << (i - 64)}
}

func xor(a, b api.Wide) api.Wide { return api.Wide{Hi: a.Hi ^ b.Hi, Lo: a.Lo ^ b.Lo} }

// low is the n lowest bits.
func low(n int) api.Wide {
	var a api.Wide
	for i := range n {
		a = xor(a, at(i))
	}
	return a
}

// is is the part by which f has the value.
func is(f int, value uint64) api.Oxm { return api.Oxm{Field: f, Value: api.Wide{Lo: value}} }

// masked is the part by which f has the value in the bits of mask.
func masked(f int, value, mask uint64) api.Oxm {
	return api.Oxm{Field: f, Masked: true, Value: api.Wide{Lo: value}, Mask: api.Wide{Lo: mask}}
}

// meets tells whether one of l is what w is.
func meets(l []api.Oxm, w want) bool {
	found := false
	for _, o := range l {
		if o.Field == w.field && len(w.values) == 0 {
			found = true
		}
		for _, v := range w.values {
			if o.Field == w.field && !o.Masked && o.Value.Hi == 0 && o.Value.Lo == v {
				found = true
			}
		}
	}
	return found
}

// met is Met by the chapter's words.
func met(l []api.Oxm, f int) bool {
	if f < 0 || f >= api.Fields {
		return true
	}
	all := true
	for _, w := range wants[f] {
		all = all && meets(l, w)
	}
	return all
}

// checked is Check by the chapter's words; -1 is no fault.
func checked(l []api.Oxm) int {
	for i, o := range l {
		for _, p := range l[:i] {
			if p.Field == o.Field {
				return 10
			}
		}
		if !met(l[:i], o.Field) {
			return 9
		}
	}
	return -1
}

// spell is the size lowest bytes of a, the highest first.
func spell(a api.Wide, size int) []byte {
	var b []byte
	for k := size - 1; k >= 0; k-- {
		half := a.Lo
		if k >= 8 {
			half = a.Hi
		}
		b = append(b, byte(half>>(8*(k%8))))
	}
	return b
}

// partBytes is o's bytes, whether it may be or not.
func partBytes(o api.Oxm) []byte {
	size := bytesOf[o.Field]
	if !o.Masked {
		return append([]byte{0x80, 0, byte(2 * idOf[o.Field]), byte(size)}, spell(o.Value, size)...)
	}
	b := append([]byte{0x80, 0, byte(2*idOf[o.Field] + 1), byte(2 * size)}, spell(o.Value, size)...)
	return append(b, spell(o.Mask, size)...)
}

// wrap is the parts' bytes with what stands ahead and behind.
func wrap(parts []byte) []byte {
	n := 4 + len(parts)
	b := append([]byte{0, 1, byte(n >> 8), byte(n)}, parts...)
	for len(b)%8 != 0 {
		b = append(b, 0)
	}
	return b
}

// bytesFor is l's bytes by the chapter's words, whether it may be or not.
func bytesFor(l []api.Oxm) []byte {
	var parts []byte
	for _, o := range l {
		parts = append(parts, partBytes(o)...)
	}
	return wrap(parts)
}

// before is parts by which f has what it needs, with one of the values of each, by turns.
func before(f, turn int) []api.Oxm {
	var l []api.Oxm
	for _, w := range wants[f] {
		if len(w.values) == 0 {
			l = append(l, is(w.field, 7))
			continue
		}
		l = append(l, is(w.field, w.values[turn%len(w.values)]))
	}
	return l
}

// longest is a match of as many bytes as one may have.
func longest() []api.Oxm {
	l := []api.Oxm{is(api.InPort, 1), is(api.EthType, 0x86DD), is(api.VlanPcp, 3)}
	l = slices.Insert(l, 2, masked(api.VlanVid, 0x1000, 0x1000))
	l = append(l, masked(api.Metadata, 5, 7), masked(api.EthDst, 1, 3), masked(api.EthSrc, 2, 3))
	l = append(l, is(api.IPDscp, 63), is(api.IPEcn, 3), is(api.IPProto, 17), is(api.UDPSrc, 53), is(api.UDPDst, 0xFFFF))
	for _, f := range []int{api.IPv6Src, api.IPv6Dst} {
		l = append(l, api.Oxm{Field: f, Masked: true, Value: api.Wide{Hi: 0x20010DB8 << 32, Lo: 1}, Mask: whole})
	}
	return l
}

// rights are matches that may be: no parts, one, many; each field behind what it needs.
func rights() [][]api.Oxm {
	all := [][]api.Oxm{nil, {}, longest()}
	for f, bits := range bitsOf {
		for turn := range 2 {
			for _, v := range []api.Wide{{}, at(0), at(bits - 1), low(bits)} {
				l := before(f, turn)
				all = append(all, append(slices.Clone(l), api.Oxm{Field: f, Value: v}))
				all = append(all, append([]api.Oxm{is(api.InPort, 9), is(api.EthSrc, 4)}, append(l, api.Oxm{Field: f, Value: v})...))
				if masksOf[f] {
					all = append(all, append(slices.Clone(l), api.Oxm{Field: f, Masked: true, Value: v, Mask: low(bits)}))
					all = append(all, append(slices.Clone(l), api.Oxm{Field: f, Masked: true, Mask: at(bits - 1)}, is(api.InPort, 2)))
				}
			}
		}
	}
	all = slices.DeleteFunc(all, func(l []api.Oxm) bool { return checked(l) >= 0 })
	for n := range len(longest()) {
		all = append(all, longest()[:n])
	}
	return all
}

func TestMet(t *testing.T) { // P11.1
	for f := range api.Fields {
		for turn := range 2 {
			l := before(f, turn)
			if !match.Met(l, f) {
				t.Errorf("Met(%v, %d): false", l, f)
			}
			// Where they stand does not count.
			slices.Reverse(l)
			if !match.Met(append([]api.Oxm{is(api.EthDst, 1)}, append(l, is(api.InPort, 1))...), f) {
				t.Errorf("Met(%v and others, %d): false", l, f)
			}
			for i := range l {
				if match.Met(slices.Delete(slices.Clone(l), i, i+1), f) {
					t.Errorf("Met(%v without %d, %d): true", l, i, f)
				}
			}
		}
		if got := match.Met(nil, f); got != (len(wants[f]) == 0) || match.Met([]api.Oxm{}, f) != got {
			t.Errorf("Met of none, %d: %v", f, got)
		}
	}
}

func TestMetByAnother(t *testing.T) { // P11.1: masked, or of another value
	for f := range api.Fields {
		l := before(f, 0)
		for i, w := range wants[f] {
			other := func(o api.Oxm, holds bool) {
				t.Helper()
				k := slices.Clone(l)
				k[i] = o
				if match.Met(k, f) != holds {
					t.Errorf("Met(%v, %d): %v", k, f, !holds)
				}
				// Beside one that will do it does nothing.
				if !match.Met(append(slices.Clone(l), o), f) || !match.Met(append([]api.Oxm{o}, l...), f) {
					t.Errorf("Met(%v and %v, %d): false", l, o, f)
				}
			}
			if len(w.values) == 0 {
				other(masked(w.field, 0, 1), true)
				other(masked(w.field, 0, 0), true)
				other(is(w.field, 0xFFFF), true)
				other(is(w.field-1, 0), false)
				continue
			}
			v := w.values[0]
			other(api.Oxm{Field: w.field, Masked: true, Value: api.Wide{Lo: v}, Mask: low(bitsOf[w.field])}, false)
			other(api.Oxm{Field: w.field, Masked: true, Value: api.Wide{Lo: v}}, false)
			other(api.Oxm{Field: w.field, Value: api.Wide{Hi: 1, Lo: v}}, false)
			other(api.Oxm{Field: w.field, Value: api.Wide{Hi: v}}, false)
			// What stands in Mask does not count, unless it is Masked.
			other(api.Oxm{Field: w.field, Value: api.Wide{Lo: v}, Mask: whole}, true)
			for _, g := range []int{w.field - 1, w.field + 1, w.field ^ 32, -w.field, w.field + 1<<32} {
				other(is(g, v), false)
			}
			for d := range uint64(1 << 16) {
				if d < 256 || d&(d-1) == 0 {
					other(is(w.field, v^d), slices.Contains(w.values, v^d))
				}
			}
		}
	}
}

func TestMetOfNoField(t *testing.T) { // P11.1: it needs nothing
	for _, f := range none {
		if !match.Met(nil, f) || !match.Met([]api.Oxm{is(f, 0)}, f) || !match.Met(longest(), f) {
			t.Errorf("Met of field %d: false", f)
		}
	}
}

func TestMetTold(t *testing.T) { // P11.1: told without a second reckoning
	ip4, ip6, arp := is(api.EthType, 0x0800), is(api.EthType, 0x86DD), is(api.EthType, 0x0806)
	tcp, udp, icmp := is(api.IPProto, 6), is(api.IPProto, 17), is(api.IPProto, 1)
	for _, one := range []struct {
		l     []api.Oxm
		f     int
		holds bool
	}{
		{[]api.Oxm{ip4}, api.IPv4Src, true}, {[]api.Oxm{ip6}, api.IPv4Src, false}, {[]api.Oxm{ip6}, api.IPv6Dst, true},
		{[]api.Oxm{ip4, tcp}, api.TCPDst, true}, {[]api.Oxm{ip6, tcp}, api.TCPDst, true}, {[]api.Oxm{tcp}, api.TCPDst, false},
		{[]api.Oxm{tcp, ip4}, api.TCPSrc, true}, {[]api.Oxm{ip4, udp}, api.TCPSrc, false}, {[]api.Oxm{arp, tcp}, api.TCPSrc, false},
		{[]api.Oxm{ip4, icmp}, api.ICMPType, true}, {[]api.Oxm{ip6, icmp}, api.ICMPType, false}, {[]api.Oxm{ip4}, api.ICMPType, false},
		{[]api.Oxm{arp}, api.ARPTpa, true}, {[]api.Oxm{is(api.EthType, 0x8848)}, api.MPLSLabel, true}, {[]api.Oxm{is(api.EthType, 0x8849)}, api.MPLSLabel, false},
		{[]api.Oxm{masked(api.VlanVid, 0x1000, 0x1000)}, api.VlanPcp, true}, {[]api.Oxm{is(api.VlanPcp, 1)}, api.VlanPcp, false},
		{nil, api.VlanPcp, false}, {nil, api.InPort, true}, {nil, api.IPProto, false}, {nil, -1, true},
		{[]api.Oxm{arp, ip4}, api.IPv4Src, true}, {[]api.Oxm{ip4, arp}, api.IPv4Src, true}, // of one field twice: one will do
	} {
		if got := match.Met(one.l, one.f); got != one.holds {
			t.Errorf("Met(%v, %d): %v", one.l, one.f, got)
		}
	}
}

// holdsCheck holds Check of l against the code, -1 for none.
func holdsCheck(t *testing.T, l []api.Oxm, code int) {
	t.Helper()
	f := api.Fault{}
	if code >= 0 {
		f = api.Fault{Is: true, Type: 4, Code: code}
	}
	if got := match.Check(l); got != f {
		t.Errorf("Check(%v): %v, want %v", l, got, f)
	}
}

func TestCheck(t *testing.T) { // P11.1
	for _, l := range rights() {
		holdsCheck(t, l, -1)
		for i := range l {
			// Told once more behind, and ahead: what it needs may not be there then.
			holdsCheck(t, append(slices.Clone(l), l[i]), 10)
			ahead := append([]api.Oxm{l[i]}, l...)
			holdsCheck(t, ahead, checked(ahead))
		}
	}
	for f := range api.Fields {
		for turn := range 2 {
			l := before(f, turn)
			o := is(f, 0)
			holdsCheck(t, append(slices.Clone(l), o), -1)
			if len(l) == 0 {
				continue
			}
			holdsCheck(t, []api.Oxm{o}, 9)
			holdsCheck(t, append([]api.Oxm{o}, l...), 9) // what it needs stands behind it
			if len(l) == 2 {
				holdsCheck(t, []api.Oxm{l[0], o, l[1]}, 9)
			}
		}
	}
}

func TestCheckTold(t *testing.T) { // P11.1: told without a second reckoning
	ip4, tcp := is(api.EthType, 0x0800), is(api.IPProto, 6)
	holdsCheck(t, nil, -1)
	holdsCheck(t, []api.Oxm{}, -1)
	holdsCheck(t, []api.Oxm{ip4, tcp, is(api.TCPDst, 80)}, -1)
	holdsCheck(t, []api.Oxm{tcp, ip4, is(api.TCPDst, 80)}, 9)
	holdsCheck(t, []api.Oxm{ip4, is(api.TCPDst, 80), tcp}, 9)
	holdsCheck(t, []api.Oxm{ip4, is(api.IPProto, 17), is(api.TCPDst, 80)}, 9)
	holdsCheck(t, []api.Oxm{masked(api.EthType, 0x0800, 0xFFFF), is(api.IPv4Src, 1)}, 9)
	holdsCheck(t, []api.Oxm{ip4, ip4}, 10)
	holdsCheck(t, []api.Oxm{ip4, is(api.EthType, 0x0806)}, 10)
	holdsCheck(t, []api.Oxm{ip4, is(api.InPort, 1), masked(api.EthType, 0, 1)}, 10)
	holdsCheck(t, []api.Oxm{is(api.VlanPcp, 1), is(api.VlanPcp, 1)}, 9)          // the first one comes first
	holdsCheck(t, []api.Oxm{is(api.InPort, 1), is(api.InPort, 1), tcp}, 10)      // here, too
	holdsCheck(t, []api.Oxm{is(api.InPort, 1), tcp, is(api.InPort, 1)}, 9)       // and here
	holdsCheck(t, []api.Oxm{ip4, is(api.IPv4Src, 1), is(api.IPv4Src, 2)}, 10)    // all it needs, but twice
	holdsCheck(t, []api.Oxm{{Field: api.InPort, Value: whole, Mask: whole}}, -1) // whether one is right is not asked
	holdsCheck(t, []api.Oxm{masked(api.InPort, 3, 0), is(api.EthDst, math.MaxUint64)}, -1)
}

func TestCheckOfNoField(t *testing.T) { // P11.1: a field that is none needs nothing, but is told, too
	for i, f := range none {
		holdsCheck(t, []api.Oxm{is(f, 1)}, -1)
		holdsCheck(t, []api.Oxm{is(f, 1), is(none[(i+1)%len(none)], 1)}, -1)
		holdsCheck(t, []api.Oxm{is(f, 1), is(f, 2)}, 10)
		holdsCheck(t, []api.Oxm{is(f, 1), is(api.InPort, 2), masked(f, 1, 1)}, 10)
		holdsCheck(t, []api.Oxm{is(f, 0x0800), is(api.IPv4Src, 2)}, 9)
	}
}

func TestCheckOfAny(t *testing.T) { // P11.1: lists of few fields, in all orders
	pieces := []api.Oxm{is(4, 0x0800), is(4, 0x86DD), masked(4, 0x0800, 0xFFFF), is(9, 6), is(9, 1), is(12, 1), is(16, 1), is(10, 1), is(5, 0), masked(5, 0, 1), is(6, 1), is(-1, 0)}
	var l []api.Oxm
	var grow func()
	grow = func() {
		holdsCheck(t, l, checked(l))
		for f := range api.Fields {
			if match.Met(l, f) != met(l, f) {
				t.Errorf("Met(%v, %d): %v", l, f, !met(l, f))
			}
		}
		if len(l) == 4 {
			return
		}
		for _, o := range pieces {
			l = append(l, o)
			grow()
			l = l[:len(l)-1]
		}
	}
	grow()
}

func TestCube(t *testing.T) { // P11.1
	if match.Cube(nil) != (api.Cube{}) || match.Cube([]api.Oxm{}) != (api.Cube{}) {
		t.Error("Cube of no parts: some bits count")
	}
	for f, bits := range bitsOf {
		for _, v := range []api.Wide{{}, at(0), low(bits), whole} {
			for _, m := range []api.Wide{{}, at(0), low(bits), whole} {
				var plain, some api.Cube
				plain[f] = api.Tern{Value: v, Mask: low(bits)}
				some[f] = api.Tern{Value: v, Mask: m}
				if got := match.Cube([]api.Oxm{{Field: f, Value: v, Mask: m}}); got != plain {
					t.Errorf("Cube of field %d, %x: %x", f, v, got[f])
				}
				if got := match.Cube([]api.Oxm{{Field: f, Masked: true, Value: v, Mask: m}}); got != some {
					t.Errorf("Cube of field %d, %x, masked by %x: %x", f, v, m, got[f])
				}
			}
		}
	}
}

func TestCubeOfMany(t *testing.T) { // P11.1: one behind the other: the last one of a field is its tern
	for _, l := range rights() {
		var c api.Cube
		for _, o := range l {
			c[o.Field] = api.Tern{Value: o.Value, Mask: o.Mask}
			if !o.Masked {
				c[o.Field].Mask = low(bitsOf[o.Field])
			}
		}
		if got := match.Cube(l); got != c {
			t.Errorf("Cube(%v): %x", l, got)
		}
		for _, f := range none {
			if got := match.Cube(append([]api.Oxm{masked(f, 1, 1)}, append(slices.Clone(l), is(f, math.MaxUint64))...)); got != c {
				t.Errorf("Cube(%v) with field %d: %x", l, f, got)
			}
		}
	}
	for f, bits := range bitsOf {
		var first, last api.Cube
		first[f] = api.Tern{Value: at(1), Mask: api.Wide{Lo: 3}}
		last[f] = api.Tern{Value: at(0), Mask: low(bits)}
		if got := match.Cube([]api.Oxm{masked(f, 2, 3), is(f, 1)}); got != last {
			t.Errorf("Cube of field %d twice: %x", f, got[f])
		}
		if got := match.Cube([]api.Oxm{is(f, 1), masked(f, 2, 3)}); got != first {
			t.Errorf("Cube of field %d twice, masked behind: %x", f, got[f])
		}
	}
}

func TestSame(t *testing.T) { // P11.1, R5
	if !match.Same(nil, nil) || !match.Same(nil, []api.Oxm{}) || !match.Same([]api.Oxm{}, nil) {
		t.Error("Same of no parts: false")
	}
	l := []api.Oxm{masked(1, 2, 3), is(-1, 4), masked(1, 2, 3)}
	if !match.Same(l, slices.Clone(l)) {
		t.Error("Same of the same: false")
	}
	for i := range l {
		others := []api.Oxm{l[i], l[i], l[i], l[i], l[i], l[i]}
		others[0].Field ^= 1
		others[1].Masked = !others[1].Masked
		others[2].Value.Hi++
		others[3].Value.Lo++
		others[4].Mask.Hi++
		others[5].Mask.Lo++
		for _, o := range others {
			k := slices.Clone(l)
			k[i] = o
			if match.Same(l, k) || match.Same(k, l) {
				t.Errorf("Same(%v, %v): true", l, k)
			}
		}
		if match.Same(l, l[:i]) || match.Same(l[:i], l) || match.Same(l, append(slices.Clone(l), l[i])) {
			t.Errorf("Same with another number of parts, %d: true", i)
		}
	}
	// In another order they are others.
	if match.Same(l[:2], []api.Oxm{l[1], l[0]}) || match.Same(nil, make([]api.Oxm, 1)) {
		t.Error("Same of others: true")
	}
}

func TestEncode(t *testing.T) { // P11.2
	for _, l := range rights() {
		if b, e := match.Encode(l); e != api.OK || !bytes.Equal(b, bytesFor(l)) {
			t.Errorf("Encode(%v): %x, %d, want %x", l, b, e, bytesFor(l))
		}
	}
}

// spelt are matches with their bytes, told without a second reckoning: with each number of noughts.
var spelt = []struct {
	l []api.Oxm
	b []byte
}{
	{nil, []byte{0, 1, 0, 4, 0, 0, 0, 0}},
	{[]api.Oxm{is(api.InPort, 1)}, []byte{0, 1, 0, 12, 0x80, 0, 0, 4, 0, 0, 0, 1, 0, 0, 0, 0}},
	{[]api.Oxm{is(api.EthType, 0x0806)}, []byte{0, 1, 0, 10, 0x80, 0, 10, 2, 8, 6, 0, 0, 0, 0, 0, 0}},
	{[]api.Oxm{is(api.EthType, 0x0800), is(api.IPEcn, 3)}, []byte{0, 1, 0, 15, 0x80, 0, 10, 2, 8, 0, 0x80, 0, 18, 1, 3, 0}},
	{[]api.Oxm{is(api.EthType, 0x0800), is(api.IPProto, 17), is(api.UDPDst, 53)}, []byte{0, 1, 0, 21, 0x80, 0, 10, 2, 8, 0, 0x80, 0, 20, 1, 17, 0x80, 0, 32, 2, 0, 53, 0, 0, 0}},
	{[]api.Oxm{is(api.EthType, 0x8847), is(api.MPLSLabel, 0xFFFFF)}, []byte{0, 1, 0, 17, 0x80, 0, 10, 2, 0x88, 0x47, 0x80, 0, 68, 3, 0x0F, 0xFF, 0xFF, 0, 0, 0, 0, 0, 0, 0}},
	{[]api.Oxm{is(api.EthDst, 7)}, []byte{0, 1, 0, 14, 0x80, 0, 6, 6, 0, 0, 0, 0, 0, 7, 0, 0}},
	{[]api.Oxm{masked(api.EthDst, 1<<40, 1<<40)}, []byte{0, 1, 0, 20, 0x80, 0, 7, 12, 1, 0, 0, 0, 0, 0, 1, 0, 0, 0, 0, 0, 0, 0, 0, 0}},
	{[]api.Oxm{is(api.VlanVid, 0x1005), is(api.VlanPcp, 6), is(api.EthType, 0x0800), is(api.IPDscp, 1), is(api.IPEcn, 2)},
		[]byte{0, 1, 0, 31, 0x80, 0, 12, 2, 0x10, 5, 0x80, 0, 14, 1, 6, 0x80, 0, 10, 2, 8, 0, 0x80, 0, 16, 1, 1, 0x80, 0, 18, 1, 2, 0}},
	{[]api.Oxm{is(api.VlanVid, 0), is(api.VlanPcp, 0), is(api.EthSrc, 9), is(api.EthType, 0x0800), is(api.IPProto, 1), is(api.ICMPCode, 2)},
		[]byte{0, 1, 0, 41, 0x80, 0, 12, 2, 0, 0, 0x80, 0, 14, 1, 0, 0x80, 0, 8, 6, 0, 0, 0, 0, 0, 9, 0x80, 0, 10, 2, 8, 0, 0x80, 0, 20, 1, 1, 0x80, 0, 40, 1, 2, 0, 0, 0, 0, 0, 0, 0}},
	{[]api.Oxm{is(api.EthType, 0x0806), is(api.ARPOp, 1)}, []byte{0, 1, 0, 16, 0x80, 0, 10, 2, 8, 6, 0x80, 0, 42, 2, 0, 1}},
	{[]api.Oxm{is(api.VlanVid, 1), is(api.VlanPcp, 1), is(api.Metadata, 2)}, []byte{0, 1, 0, 27, 0x80, 0, 12, 2, 0, 1, 0x80, 0, 14, 1, 1, 0x80, 0, 4, 8, 0, 0, 0, 0, 0, 0, 0, 2, 0, 0, 0, 0, 0}},
}

func TestSpelt(t *testing.T) { // P11.2
	noughts := [8]int{}
	for _, one := range spelt {
		noughts[len(one.b)-int(one.b[2])<<8-int(one.b[3])]++
		if b, e := match.Encode(one.l); e != api.OK || !bytes.Equal(b, one.b) {
			t.Errorf("Encode(%v): %x, %d", one.l, b, e)
		}
		if l, n, f := match.Decode(one.b); !slices.Equal(l, one.l) || n != len(one.b) || f != (api.Fault{}) {
			t.Errorf("Decode(%x): %v, %d, %v", one.b, l, n, f)
		}
	}
	if slices.Contains(noughts[:], 0) {
		t.Errorf("numbers of noughts that were tested: %v", noughts)
	}
}

func TestEncodeOfWrong(t *testing.T) { // P11.2
	refused := func(l []api.Oxm) {
		t.Helper()
		if b, e := match.Encode(l); e != api.ErrArg || len(b) != 0 {
			t.Errorf("Encode(%v): %x, %d", l, b, e)
		}
	}
	var wrong []api.Oxm
	for _, f := range none {
		wrong = append(wrong, is(f, 0), masked(f, 1, 1))
	}
	for f, bits := range bitsOf {
		wrong = append(wrong, masked(f, 0, 0), masked(f, 1, 2), api.Oxm{Field: f, Mask: at(0)}, api.Oxm{Field: f, Value: at(0), Mask: low(bits)})
		if !masksOf[f] {
			wrong = append(wrong, masked(f, 1, 1))
		}
		if bits < 128 {
			wrong = append(wrong, api.Oxm{Field: f, Value: at(bits)}, api.Oxm{Field: f, Value: at(127)}, api.Oxm{Field: f, Masked: true, Mask: at(bits)})
		}
	}
	for _, o := range wrong {
		var l []api.Oxm
		if o.Field >= 0 && o.Field < api.Fields {
			l = before(o.Field, 0)
		}
		l = append(l, o)
		refused(l)                                                                      // the last one
		refused(append([]api.Oxm{{Field: -7}}, l...))                                   // and the first one
		refused(append(slices.Clone(l), is(api.EthSrc, 1), masked(api.EthDst, 1, 1)))   // with others behind
		refused(append([]api.Oxm{is(api.EthSrc, 1), masked(api.EthDst, 1, 1)}, l...))   // and ahead
		refused(append([]api.Oxm{masked(api.EthType, 0x0800, 0xFFFF)}, is(o.Field, 0))) // masked, what may not be
	}
	for _, l := range rights() {
		for i := range l {
			refused(append(slices.Clone(l), l[i]))
			if k := slices.Delete(slices.Clone(l), i, i+1); checked(k) == 9 {
				refused(k)
			}
		}
	}
	refused([]api.Oxm{is(api.IPv4Src, 1), is(api.EthType, 0x0800)})
	refused(slices.Repeat([]api.Oxm{is(api.InPort, 1)}, 125)) // 1000 bytes
	refused(slices.Repeat([]api.Oxm{is(api.InPort, 1)}, 126))
	refused(slices.Repeat([]api.Oxm{is(api.InPort, 1)}, 100000))
}

func TestDecode(t *testing.T) { // P11.2: bytes that stand behind do nothing
	for _, l := range rights() {
		b := bytesFor(l)
		for _, behind := range [][]byte{nil, {0}, {0xFF}, spelt[1].b, bytes.Repeat([]byte{7}, 1100)} {
			if got, n, f := match.Decode(slices.Concat(b, behind)); !slices.Equal(got, l) || n != len(b) || f != (api.Fault{}) {
				t.Errorf("Decode(%x) with %d bytes behind: %v, %d, %v", b, len(behind), got, n, f)
			}
		}
	}
}

func refused(t *testing.T, b []byte, code int) {
	t.Helper()
	if l, n, f := match.Decode(b); len(l) != 0 || n != 0 || f != (api.Fault{Is: true, Type: 4, Code: code}) {
		t.Errorf("Decode(%x): %v, %d, %v, want (4, %d)", b, l, n, f, code)
	}
}

func TestDecodeOfTooFew(t *testing.T) { // P11.2: whatever the first number is
	refused(t, nil, 1)
	refused(t, []byte{}, 1)
	for _, l := range rights() {
		b := bytesFor(l)
		for n := range len(b) {
			refused(t, b[:n], 1)
		}
		b[0] = 9
		for n := range len(b) {
			refused(t, b[:n], 1)
		}
		refused(t, b, 0)
	}
}

// lay is n bytes: the first number, the length, and noughts behind.
func lay(first, length, n int) []byte {
	b := make([]byte, n)
	b[0], b[1], b[2], b[3] = byte(first>>8), byte(first), byte(length>>8), byte(length)
	return b
}

func TestDecodeOfLengths(t *testing.T) { // P11.2
	for _, first := range []int{0, 1, 2, 256, 257, 0xFFFF} {
		// Below 4, and beyond the bytes, whatever the first number is.
		for length := range 4 {
			refused(t, lay(first, length, 8), 1)
			refused(t, lay(first, length, 70000), 1)
		}
		for n := 4; n < 40; n++ {
			for length := n + 1; length < 60; length++ {
				refused(t, lay(first, length, n), 1)
			}
		}
		for _, length := range []int{4, 5, 8, 9, 1000, 1001, 1004, 1005, 1008, 1009, 65527, 65528, 65529, 65535} {
			all := (length + 7) / 8 * 8
			refused(t, lay(first, length, all-1), 1)
			if first != 1 {
				refused(t, lay(first, length, all), 0)
			}
		}
	}
	// Above 1004, ahead of what is wrong with the parts.
	for _, length := range []int{1005, 1006, 1008, 1009, 1012, 2048, 4100, 0x8004, 65528, 65529, 65535} {
		refused(t, lay(1, length, 65536), 1)
		refused(t, append([]byte{0, 1, byte(length >> 8), byte(length), 0, 0, 2, 0}, make([]byte, 65536)...), 1)
	}
	// At 1004 the parts are asked: here they are of no class.
	refused(t, lay(1, 1004, 1008), 6)
	refused(t, lay(1, 1000, 1000), 6)
}

func TestDecodeOfLongParts(t *testing.T) { // P11.2: of 1000 bytes, and of more
	part := partBytes(is(api.InPort, 1))
	full := wrap(bytes.Repeat(part, 125))
	if len(full) != 1008 {
		t.Fatal(len(full))
	}
	refused(t, full, 10)
	refused(t, wrap(bytes.Repeat(part, 126)), 1)
	// The last ones are read, too: within 1000 bytes a fault of one of them comes first.
	last := bytes.Clone(full)
	last[4+124*8+2] = 1
	refused(t, last, 8)
	last[4+124*8] = 0
	refused(t, last, 6)
	over := wrap(append(bytes.Repeat(part, 124), partBytes(is(api.EthType, 1))...)) // 998 bytes
	refused(t, over, 10)
	over = wrap(append(bytes.Repeat(part, 123), partBytes(is(api.Metadata, 1))...)) // 996 bytes
	refused(t, over, 10)
	over = wrap(append(bytes.Repeat(part, 124), partBytes(is(api.VlanPcp, 1))...)) // 997 bytes
	refused(t, over, 10)
	over = wrap(append(bytes.Repeat(part, 124), partBytes(is(api.EthDst, 1))...)) // 1002 bytes
	refused(t, over, 1)
	over = wrap(append(bytes.Repeat(part, 124), append(partBytes(is(api.VlanPcp, 1)), 0x80, 0, 0, 0)...)) // 1001 bytes
	refused(t, over, 1)
}

func TestDecodeOfAnotherNumber(t *testing.T) { // P11.2: whatever is wrong behind
	for _, first := range []int{0, 2, 3, 4, 255, 256, 257, 0x0101, 0x8000, 0x8001, 0xFFFF} {
		for _, one := range spelt {
			b := bytes.Clone(one.b)
			b[0], b[1] = byte(first>>8), byte(first)
			refused(t, b, 0)
			b[len(b)-1] = 1
			refused(t, b, 0)
		}
		refused(t, lay(first, 1005, 2000), 0)
		refused(t, lay(first, 1004, 1008), 0)
		refused(t, lay(first, 7, 8), 0)
	}
}

func TestDecodeOfCutParts(t *testing.T) { // P11.2: the length ends within a part, but the bytes go on
	for _, l := range rights() {
		if len(l) == 0 {
			continue
		}
		b := bytesFor(l)
		end := 4
		ends := []int{4}
		for _, o := range l {
			end += len(partBytes(o))
			ends = append(ends, end)
		}
		b = append(b, make([]byte, 8)...)
		for length := 5; length < end; length++ {
			if slices.Contains(ends, length) {
				continue
			}
			b[2], b[3] = byte(length>>8), byte(length)
			refused(t, b, 1)
		}
	}
}

func TestDecodeOfWrongParts(t *testing.T) { // P11.2: oxm's fault, of the first, of the last
	for _, one := range []struct {
		part []byte
		code int
	}{
		{[]byte{0x80}, 1}, {[]byte{0x80, 0, 0}, 1}, {[]byte{0x80, 0, 0, 4}, 1}, {[]byte{0x80, 0, 0, 4, 0, 0, 0}, 1},
		{[]byte{0x80, 0, 6, 5, 0, 0, 0, 0, 0}, 1}, {[]byte{0x80, 0, 6, 7, 0, 0, 0, 0, 0, 0, 0}, 1},
		{[]byte{0x80, 1, 6, 6, 0, 0, 0, 0, 0, 0}, 6}, {[]byte{0, 0, 0, 0}, 6}, {[]byte{0x80, 0, 2, 4, 0, 0, 0, 0}, 6},
		{[]byte{0x80, 0, 1, 8, 0, 0, 0, 0, 0, 0, 0, 0}, 8}, {[]byte{0x80, 0, 13, 4, 0, 0, 0, 0}, 8},
		{[]byte{0x80, 0, 12, 2, 0x20, 0}, 7}, {[]byte{0x80, 0, 14, 1, 8}, 7}, {[]byte{0x80, 0, 13, 4, 0, 1, 0, 2}, 5},
	} {
		refused(t, wrap(one.part), one.code)
		refused(t, wrap(append(partBytes(is(api.EthType, 0x0800)), one.part...)), one.code)
		refused(t, append(wrap(one.part), 0, 0, 0, 0, 0, 0, 0, 0), one.code)
		// Ahead of what Check tells of the parts, and of noughts that are none.
		twice := slices.Concat(partBytes(is(api.EthSrc, 1)), partBytes(is(api.EthSrc, 1)), one.part)
		refused(t, wrap(twice), one.code)
		needs := slices.Concat(partBytes(is(api.IPv4Src, 1)), one.part)
		refused(t, wrap(needs), one.code)
		b := wrap(one.part)
		if n := 4 + len(one.part); n < len(b) {
			b[n] = 1
			refused(t, b, one.code)
		}
	}
	// Of two that are wrong, the first one.
	bad := [][]byte{{0x80, 0, 12, 2, 0x20, 0}, {0x80, 0, 2, 0}, {0x80, 0, 13, 4, 0, 1, 0, 2}}
	refused(t, wrap(slices.Concat(bad[0], bad[1])), 7)
	refused(t, wrap(slices.Concat(bad[1], bad[0])), 6)
	refused(t, wrap(slices.Concat(bad[2], bad[1], bad[0])), 5)
}

func TestDecodeOfCheck(t *testing.T) { // P11.2: Check's fault, ahead of noughts that are none
	for _, l := range rights() {
		for i := range l {
			k := append(slices.Clone(l), l[i])
			b := bytesFor(k)
			refused(t, b, 10)
			b[len(b)-1] |= 1
			if n := int(b[2])<<8 | int(b[3]); n < len(b) {
				refused(t, b, 10)
			}
			k = slices.Delete(k, i, i+1)
			if code := checked(k); code >= 0 {
				refused(t, bytesFor(k), code)
			}
		}
	}
	refused(t, bytesFor([]api.Oxm{is(api.IPv4Src, 1)}), 9)
	refused(t, bytesFor([]api.Oxm{is(api.IPv4Src, 1), is(api.EthType, 0x0800)}), 9)
	refused(t, bytesFor([]api.Oxm{is(api.EthType, 0x86DD), is(api.IPv4Src, 1)}), 9)
	refused(t, bytesFor([]api.Oxm{is(api.EthType, 0x86DD), is(api.EthType, 0x86DD), is(api.IPv4Src, 1)}), 10)
	refused(t, bytesFor([]api.Oxm{is(api.EthType, 0x86DD), is(api.IPv4Src, 1), is(api.EthType, 0x86DD)}), 9)
}

func TestDecodeOfNoughts(t *testing.T) { // P11.2: each of them, each bit; those behind them are none
	for _, one := range spelt {
		length := int(one.b[2])<<8 | int(one.b[3])
		for i := length; i < len(one.b); i++ {
			for bit := range 8 {
				b := bytes.Clone(one.b)
				b[i] = 1 << bit
				refused(t, b, 1)
				refused(t, append(b, 0, 0, 0), 1)
			}
		}
		if _, n, f := match.Decode(append(bytes.Clone(one.b), 1)); n != len(one.b) || f.Is {
			t.Errorf("Decode(%x) with a byte behind: %d, %v", one.b, n, f)
		}
	}
}

func TestThereAndBack(t *testing.T) { // P11.3
	for _, l := range rights() {
		b, e := match.Encode(l)
		if got, n, f := match.Decode(b); e != api.OK || !match.Same(got, l) || n != len(b) || f.Is {
			t.Errorf("Decode of Encode of %v: %v, %d, %v", l, got, n, f)
		}
	}
}

func TestBackAndThere(t *testing.T) { // P11.3: of bytes that are nearly right, or are
	next := uint64(1)
	draw := func(n int) int {
		next = next*6364136223846793005 + 1442695040888963407
		return int(next >> 33 % uint64(n))
	}
	all := rights()
	read, not := 0, 0
	for range 60000 {
		b := bytesFor(all[draw(len(all))])
		for range draw(3) {
			b[draw(len(b))] ^= 1 << draw(8)
		}
		b = append(b, byte(draw(256)))
		l, n, f := match.Decode(b)
		if f.Is {
			not++
			continue
		}
		read++
		if got, e := match.Encode(l); e != api.OK || match.Check(l).Is || n > len(b) || !bytes.Equal(got, b[:n]) {
			t.Errorf("Encode of Decode of %x: %x, %d", b, got, e)
		}
	}
	if read < 5000 || not < 5000 {
		t.Errorf("too few of a kind: %d, %d", read, not)
	}
}

// spare is l, with room behind that is none of its own.
func spare(l []api.Oxm) []api.Oxm {
	return append(slices.Clone(l), is(api.EthType, 0x0800), is(api.IPProto, 6), is(-1, 7))[:len(l)]
}

func TestListsStay(t *testing.T) { // R3
	for _, l := range append(rights(), []api.Oxm{is(-1, 1), is(4, 0), is(4, 0)}, []api.Oxm{is(12, 1)}) {
		a, b := spare(l), spare(l)
		was := slices.Clone(a[:cap(a)])
		match.Encode(a)
		match.Check(a)
		match.Cube(a)
		match.Same(a, b)
		for f := range api.Fields {
			match.Met(a, f)
		}
		if !slices.Equal(a[:cap(a)], was) || !slices.Equal(b[:cap(a)], was) {
			t.Errorf("a list was changed: %v", a[:cap(a)])
		}
	}
}

func TestNothingChangedOrKept(t *testing.T) { // R3, R4
	for _, one := range spelt {
		for _, b := range [][]byte{one.b, one.b[:len(one.b)-1], append(bytes.Clone(one.b), 9)} {
			room := append(bytes.Clone(b), make([]byte, 40)...)
			was := bytes.Clone(room)
			// What stands in the spare room is none of b's bytes.
			l, n, f := match.Decode(room[:len(b)])
			if !bytes.Equal(room, was) {
				t.Errorf("Decode changed b's memory: %x", room)
			}
			clear(room)
			again, m, g := match.Decode(bytes.Clone(b))
			if !slices.Equal(l, again) || m != n || g != f {
				t.Errorf("Decode of the same: %v, %d, %v, and %v, %d, %v", l, n, f, again, m, g)
			}
			// Two answers share nothing.
			again = again[:cap(again)]
			clear(again)
			if !f.Is && !slices.Equal(l, one.l) {
				t.Errorf("Decode shares its answers: %v", l)
			}
		}
		kept, _ := match.Encode(one.l)
		other, _ := match.Encode(one.l)
		other = other[:cap(other)]
		for i := range other {
			other[i] = 0xEE
		}
		if !bytes.Equal(kept, one.b) {
			t.Errorf("Encode shares its answers: %x", kept)
		}
	}
}
