package acts_test

import (
	"bytes"
	"math"
	"slices"
	"testing"

	"weirbox/acts"
	"weirbox/api"
)

// spelt are actions with their bytes, told without a second reckoning: of each kind, and of each length.
var spelt = []struct {
	a api.Action
	b []byte
}{
	{api.Action{Kind: 18}, []byte{0, 18, 0, 8, 0, 0, 0, 0}},
	{api.Action{Kind: 17, Ether: 0x8100}, []byte{0, 17, 0, 8, 0x81, 0, 0, 0}},
	{api.Action{Kind: 17, Ether: 0x88A8}, []byte{0, 17, 0, 8, 0x88, 0xA8, 0, 0}},
	{api.Action{Kind: 22}, []byte{0, 22, 0, 8, 0, 0, 0, 0}},
	{api.Action{Kind: 22, Group: 0x01020304}, []byte{0, 22, 0, 8, 1, 2, 3, 4}},
	{api.Action{Kind: 22, Group: 0xFFFFFF00}, []byte{0, 22, 0, 8, 0xFF, 0xFF, 0xFF, 0}},
	{api.Action{Kind: 0, Port: 1}, []byte{0, 0, 0, 16, 0, 0, 0, 1, 0, 0, 0, 0, 0, 0, 0, 0}},
	{api.Action{Kind: 0, Port: 0xFFFFFF00}, []byte{0, 0, 0, 16, 0xFF, 0xFF, 0xFF, 0, 0, 0, 0, 0, 0, 0, 0, 0}},
	{api.Action{Kind: 0, Port: 0xFFFFFFFD, Max: 0x1234}, []byte{0, 0, 0, 16, 0xFF, 0xFF, 0xFF, 0xFD, 0x12, 0x34, 0, 0, 0, 0, 0, 0}},
	{api.Action{Kind: 25, Oxm: api.Oxm{Field: api.EthDst, Value: api.Wide{Lo: 7}}}, []byte{0, 25, 0, 16, 0x80, 0, 6, 6, 0, 0, 0, 0, 0, 7, 0, 0}},
	{api.Action{Kind: 25, Oxm: api.Oxm{Field: api.VlanPcp, Value: api.Wide{Lo: 5}}}, []byte{0, 25, 0, 16, 0x80, 0, 14, 1, 5, 0, 0, 0, 0, 0, 0, 0}},
	{api.Action{Kind: 25, Oxm: api.Oxm{Field: api.IPv6Src, Value: api.Wide{Hi: 1, Lo: 2}}}, []byte{0, 25, 0, 24, 0x80, 0, 52, 16, 0, 0, 0, 0, 0, 0, 0, 1, 0, 0, 0, 0, 0, 0, 0, 2}},
}

// wrong are actions that are not Right.
var wrong = []api.Action{
	{}, {Port: -1}, {Port: 0xFFFFFF01}, {Port: 0xFFFFFFFF}, {Port: 1, Max: 1}, {Port: 0xFFFFFFFD, Max: 65536}, {Port: 1, Group: 1},
	{Kind: 22, Group: -1}, {Kind: 22, Group: 0xFFFFFF01}, {Kind: 22, Port: 1}, {Kind: 17}, {Kind: 17, Ether: 0x8847}, {Kind: 18, Ether: 0x8100},
	{Kind: 25}, {Kind: 25, Oxm: api.Oxm{Field: api.Metadata}}, {Kind: 25, Oxm: api.Oxm{Field: 24}}, {Kind: 25, Oxm: api.Oxm{Field: api.VlanPcp, Value: api.Wide{Lo: 8}}},
	{Kind: 25, Oxm: api.Oxm{Field: api.EthDst, Masked: true, Mask: api.Wide{Lo: 1}}}, {Kind: -1}, {Kind: 1}, {Kind: 65536 + 18}, {Kind: math.MinInt}, {Kind: math.MaxInt},
}

// faulty are bytes that no action has, with the code of why: each code that there is. Those whose length is right come first.
var faulty = []struct {
	b    []byte
	code int
}{
	{[]byte{0, 9, 0, 8, 0, 0, 0, 0}, 0},
	{[]byte{0xFF, 0xFF, 0, 8, 0, 0, 0, 0}, 0},
	{[]byte{0, 18, 0, 16, 0, 0, 0, 0, 0, 0, 0, 0, 0, 0, 0, 0}, 1},
	{[]byte{0, 0, 0, 16, 0, 0, 0, 0, 0, 0, 0, 0, 0, 0, 0, 0}, 4},
	{[]byte{0, 18, 0, 8, 0, 0, 0, 1}, 5},
	{[]byte{0, 17, 0, 8, 0x88, 0x47, 0, 0}, 5},
	{[]byte{0, 0, 0, 16, 0, 0, 0, 1, 0, 1, 0, 0, 0, 0, 0, 0}, 5},
	{[]byte{0, 22, 0, 8, 0xFF, 0xFF, 0xFF, 1}, 9},
	{[]byte{0, 25, 0, 16, 0x80, 0, 0, 4, 0, 0, 0, 1, 0, 0, 0, 0}, 13},
	{[]byte{0, 25, 0, 8, 0x80, 0, 2, 0}, 13},
	{[]byte{0, 25, 0, 8, 0x80, 0, 6, 6}, 14},
	{[]byte{0, 25, 0, 16, 0x80, 0, 14, 1, 8, 0, 0, 0, 0, 0, 0, 0}, 15},
	{[]byte{0, 25, 0, 16, 0x80, 0, 13, 4, 0, 1, 0, 1, 0, 0, 0, 0}, 15},
	{[]byte{0, 18, 0, 0, 0, 0, 0, 0}, 1},
	{[]byte{0, 18, 0, 7, 0, 0, 0, 0}, 1},
	{[]byte{0, 18, 0, 9, 0, 0, 0, 0, 0, 0, 0, 0, 0, 0, 0, 0}, 1},
}

// row is n of spelt's actions, from one of them on, and their bytes.
func row(from, n int) ([]api.Action, []byte) {
	var l []api.Action
	var b []byte
	for i := range n {
		one := spelt[(from+i)%len(spelt)]
		l = append(l, one.a)
		b = append(b, one.b...)
	}
	return l, b
}

// oneEach is all of spelt's actions.
func oneEach() []api.Action {
	l, _ := row(0, len(spelt))
	return l
}

// same is one of spelt, n times.
func same(at, n int) ([]api.Action, []byte) {
	return slices.Repeat([]api.Action{spelt[at].a}, n), bytes.Repeat(spelt[at].b, n)
}

func taken(t *testing.T, l []api.Action, b []byte) {
	t.Helper()
	if got, e := acts.Encode(l); e != api.OK || !bytes.Equal(got, b) {
		t.Errorf("Encode(%v): %x, %d, want %x", l, got, e, b)
	}
	if got, f := acts.Decode(b); f != (api.Fault{}) || !slices.Equal(got, l) {
		t.Errorf("Decode(%x): %v, %v, want %v", b, got, f, l)
	}
}

func refused(t *testing.T, b []byte, code int) {
	t.Helper()
	if l, f := acts.Decode(b); len(l) != 0 || f != (api.Fault{Is: true, Type: 2, Code: code}) {
		t.Errorf("Decode(%x): %v, %v, want (2, %d)", b, l, f, code)
	}
}

func TestNone(t *testing.T) { // P13.1, R5
	for _, l := range [][]api.Action{nil, {}, oneEach()[:0]} {
		taken(t, l, nil)
		taken(t, l, []byte{})
		if len(acts.Ports(l)) != 0 || len(acts.Groups(l)) != 0 {
			t.Errorf("of no actions: %v, %v", acts.Ports(l), acts.Groups(l))
		}
	}
}

func TestBothWays(t *testing.T) { // P13.1: one of each, each pair, and up to 100, in this order and no other
	for i, one := range spelt {
		taken(t, []api.Action{one.a}, one.b)
		for _, two := range spelt {
			taken(t, []api.Action{one.a, two.a}, slices.Concat(one.b, two.b))
		}
		for n := range 101 {
			l, b := row(i, n)
			taken(t, l, b)
		}
		for _, n := range []int{99, 100} {
			l, b := same(i, n)
			taken(t, l, b)
		}
	}
}

func TestMoreThan100(t *testing.T) { // P13.1
	for i := range spelt {
		for _, n := range []int{101, 102, 127, 128, 200, 201, 256, 300, 1000, 5000} {
			for _, lay := range []func(int, int) ([]api.Action, []byte){row, same} {
				l, b := lay(i, n)
				if got, e := acts.Encode(l); e != api.ErrArg || len(got) != 0 {
					t.Errorf("Encode of %d: %x, %d", n, got, e)
				}
				refused(t, b, 7)
			}
		}
	}
	if got, e := acts.Encode(make([]api.Action, 1000000)); e != api.ErrArg || len(got) != 0 {
		t.Errorf("Encode of very many: %d bytes, %d", len(got), e)
	}
}

func TestEncodeOfWrong(t *testing.T) { // P13.1: first, in the midst, last, alone
	for k, a := range wrong {
		for _, n := range []int{0, 1, 2, 5, 99, 100} {
			l, _ := row(k, n)
			for _, at := range []int{0, n / 2, n} {
				if got, e := acts.Encode(slices.Insert(slices.Clone(l), at, a)); e != api.ErrArg || len(got) != 0 {
					t.Errorf("Encode with %v at %d of %d: %x, %d", a, at, n, got, e)
				}
			}
		}
	}
	if got, e := acts.Encode(wrong); e != api.ErrArg || len(got) != 0 {
		t.Errorf("Encode of wrong ones alone: %x, %d", got, e)
	}
}

func TestDecodeOfCutOff(t *testing.T) { // P13.1: bytes that end within an action
	for i := range spelt {
		for _, n := range []int{1, 4, 14} {
			l, b := row(i, n)
			ends := map[int]int{}
			many := 0
			for k := range l {
				ends[many] = k
				many += len(spelt[(i+k)%len(spelt)].b)
			}
			for end := range b {
				if k, ok := ends[end]; ok {
					taken(t, l[:k], b[:end])
					continue
				}
				refused(t, b[:end], 1)
			}
		}
	}
	// The last one of 101 is cut off: a fault of it, not of there being too many.
	_, b := same(0, 101)
	for n := 1; n < 8; n++ {
		refused(t, b[:len(b)-n], 1)
	}
	_, b = same(0, 102)
	for n := 1; n < 8; n++ {
		refused(t, b[:len(b)-n], 1)
	}
}

func TestDecodeOfFaults(t *testing.T) { // P13.1: each, behind others, and ahead of others
	for i, one := range faulty {
		for _, n := range []int{0, 1, 2, 3, 14, 98, 99, 100} {
			_, b := row(i, n)
			refused(t, slices.Concat(b, one.b), one.code)
			for _, behind := range []int{1, 3, 100, 101} {
				_, more := row(i, behind)
				refused(t, slices.Concat(b, one.b, more), one.code)
			}
			// Of two, the first one.
			for _, two := range faulty {
				refused(t, slices.Concat(b, one.b, two.b), one.code)
				refused(t, slices.Concat(b, one.b, b, two.b), one.code)
			}
		}
	}
}

func TestFaultsBehindTooMany(t *testing.T) { // P13.1: the first fault is named ahead of (2, 7)
	for i, one := range faulty {
		for _, n := range []int{101, 102, 150, 200, 1000} {
			_, b := row(i, n)
			refused(t, b, 7)
			refused(t, slices.Concat(b, one.b), one.code)
			refused(t, slices.Concat(b, one.b, b), one.code)
			for _, two := range faulty {
				refused(t, slices.Concat(b, one.b, two.b), one.code)
			}
		}
	}
}

func TestSame(t *testing.T) { // P13.1, R5
	same := func(a, b []api.Action, want bool) {
		t.Helper()
		if acts.Same(a, b) != want || acts.Same(b, a) != want {
			t.Errorf("Same(%v, %v): not %v", a, b, want)
		}
	}
	same(nil, nil, true)
	same(nil, []api.Action{}, true)
	same(nil, []api.Action{{}}, false)
	same([]api.Action{{}}, []api.Action{{}, {}}, false)
	for i := range spelt {
		for _, n := range []int{1, 2, 3, 12, 101} {
			l, _ := row(i, n)
			same(l, slices.Clone(l), true)
			same(l, l[:n-1], false) // the same but for the length
			same(l, l[1:], false)
			same(l, append(slices.Clone(l), api.Action{}), false)
			for k := range l {
				if k > 0 { // the same but for the order
					other := slices.Clone(l)
					other[k-1], other[k] = other[k], other[k-1]
					same(l, other, false)
				}
				for _, change := range changes() {
					other := slices.Clone(l)
					change(&other[k])
					same(l, other, false)
				}
			}
		}
	}
	// What may not be is held together, too.
	same(wrong, slices.Clone(wrong), true)
	same(wrong, wrong[:len(wrong)-1], false)
	turned := slices.Clone(wrong)
	slices.Reverse(turned)
	same(wrong, turned, false)
}

// changes are of each thing that an action has.
func changes() []func(*api.Action) {
	return []func(*api.Action){
		func(a *api.Action) { a.Kind++ }, func(a *api.Action) { a.Port++ }, func(a *api.Action) { a.Max++ }, func(a *api.Action) { a.Group++ },
		func(a *api.Action) { a.Ether++ }, func(a *api.Action) { a.Oxm.Field++ }, func(a *api.Action) { a.Oxm.Masked = !a.Oxm.Masked },
		func(a *api.Action) { a.Oxm.Value.Hi++ }, func(a *api.Action) { a.Oxm.Value.Lo++ }, func(a *api.Action) { a.Oxm.Mask.Hi++ }, func(a *api.Action) { a.Oxm.Mask.Lo++ },
	}
}

func TestPortsAndGroups(t *testing.T) { // P13.1: told by the kind alone, in order, as often as they are there
	full := func(kind, port, group int) api.Action {
		return api.Action{Kind: kind, Port: port, Max: 77, Group: group, Ether: 0x8100, Oxm: api.Oxm{Field: 3, Value: api.Wide{Lo: 9}}}
	}
	for _, one := range []struct {
		l             []api.Action
		ports, groups []int
	}{
		{[]api.Action{full(0, 5, 6)}, []int{5}, nil},
		{[]api.Action{full(22, 5, 6)}, nil, []int{6}},
		{[]api.Action{full(17, 5, 6), full(18, 7, 8), full(25, 9, 10), full(1, 11, 12), full(-1, 13, 14), full(65536, 15, 16), full(65558, 17, 18)}, nil, nil},
		{[]api.Action{{}, {Kind: 22}}, []int{0}, []int{0}},
		{[]api.Action{full(0, 3, 0), full(22, 0, 3), full(0, 1, 0), full(18, 9, 9), full(22, 0, 1), full(0, 3, 0), full(22, 0, 3), full(22, 0, 2)}, []int{3, 1, 3}, []int{3, 1, 3, 2}},
		{[]api.Action{full(0, math.MaxInt, 1), full(0, math.MinInt, 1), full(0, -1, 1), full(0, 0xFFFFFFFD, 1)}, []int{math.MaxInt, math.MinInt, -1, 0xFFFFFFFD}, nil},
		{[]api.Action{full(22, 1, math.MaxInt), full(22, 1, math.MinInt), full(22, 1, -1), full(22, 1, 0xFFFFFFFF)}, nil, []int{math.MaxInt, math.MinInt, -1, 0xFFFFFFFF}},
		{oneEach(), []int{1, 0xFFFFFF00, 0xFFFFFFFD}, []int{0, 0x01020304, 0xFFFFFF00}},
	} {
		if got := acts.Ports(one.l); !slices.Equal(got, one.ports) {
			t.Errorf("Ports(%v): %v", one.l, got)
		}
		if got := acts.Groups(one.l); !slices.Equal(got, one.groups) {
			t.Errorf("Groups(%v): %v", one.l, got)
		}
	}
	var l []api.Action
	var want []int
	for i := range 1000 { // more than may be on the wire
		l = append(l, full(0, i, -i), full(22, -i, i))
		want = append(want, i)
	}
	if !slices.Equal(acts.Ports(l), want) || !slices.Equal(acts.Groups(l), want) {
		t.Error("Ports, Groups of many")
	}
}

// draws answers numbers below n, the same ones each time.
func draws() func(n int) int {
	next := uint64(1)
	return func(n int) int {
		next = next*6364136223846793005 + 1442695040888963407
		return int(next >> 33 % uint64(n))
	}
}

func TestThereAndBack(t *testing.T) { // P13.2
	draw := draws()
	for range 2000 {
		var l []api.Action
		for range draw(101) {
			l = append(l, spelt[draw(len(spelt))].a)
		}
		b, e := acts.Encode(l)
		if got, f := acts.Decode(b); e != api.OK || f.Is || !acts.Same(got, l) {
			t.Errorf("Decode of Encode of %v: %v, %v", l, got, f)
		}
	}
}

func TestBackAndThere(t *testing.T) { // P13.2, P4: of bytes that are nearly right, or are
	draw := draws()
	read, not := 0, 0
	for range 20000 {
		_, b := row(draw(len(spelt)), 1+draw(9))
		for range draw(3) {
			b[draw(len(b))] ^= 1 << draw(8)
		}
		l, f := acts.Decode(b)
		if f.Is {
			not++
			continue
		}
		read++
		if got, e := acts.Encode(l); e != api.OK || !bytes.Equal(got, b) {
			t.Errorf("Encode of Decode of %x: %x, %d", b, got, e)
		}
	}
	if read < 3000 || not < 3000 {
		t.Errorf("too few of a kind: %d, %d", read, not)
	}
}

func TestListsStay(t *testing.T) { // R3: what is handed in, and its spare room
	many, _ := row(0, 101)
	for _, l := range [][]api.Action{nil, oneEach()[:1], oneEach(), wrong, append(oneEach(), wrong[0]), many} {
		room := append(slices.Clone(l), spelt[0].a, spelt[6].a, wrong[1])
		was := slices.Clone(room)
		a := room[:len(l)]
		acts.Encode(a)
		acts.Ports(a)
		acts.Groups(a)
		acts.Same(a, a)
		acts.Same(a, l)
		if !slices.Equal(room, was) {
			t.Errorf("a list was changed: %v", room)
		}
	}
}

func TestBytesStay(t *testing.T) { // R3: what is handed in, and its spare room
	_, b := row(0, len(spelt))
	_, many := row(0, 101)
	for _, b := range [][]byte{nil, b[:8], b, b[:len(b)-1], slices.Concat(b, faulty[0].b), many} {
		room := slices.Concat(b, spelt[0].b, spelt[6].b)
		was := bytes.Clone(room)
		l, f := acts.Decode(room[:len(b)])
		if !bytes.Equal(room, was) {
			t.Errorf("Decode changed b's memory: %x", room)
		}
		clear(room)
		if again, g := acts.Decode(bytes.Clone(b)); g != f || !slices.Equal(again, l) {
			t.Errorf("Decode of the same: %v, %v, and %v, %v", l, f, again, g)
		}
	}
}

func TestAnswersAreApart(t *testing.T) { // R3, R4
	l, b := row(0, 30)
	kept, _ := acts.Encode(l)
	other, _ := acts.Encode(l)
	other = other[:cap(other)]
	for i := range other {
		other[i] = 0xEE
	}
	if !bytes.Equal(kept, b) {
		t.Errorf("Encode shares its answers: %x", kept)
	}
	read, _ := acts.Decode(b)
	more, _ := acts.Decode(b)
	clear(more[:cap(more)])
	if !slices.Equal(read, l) {
		t.Errorf("Decode shares its answers: %v", read)
	}
	for _, of := range []func([]api.Action) []int{acts.Ports, acts.Groups} {
		first, second := of(l), of(l)
		want := slices.Clone(first)
		clear(second[:cap(second)])
		if !slices.Equal(first, want) || len(first) == 0 {
			t.Errorf("Ports or Groups shares its answers: %v", first)
		}
	}
}
