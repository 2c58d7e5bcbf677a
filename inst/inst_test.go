package inst_test

import (
	"bytes"
	"math"
	"slices"
	"testing"

	"weirbox/api"
	"weirbox/inst"
)

// The kinds' numbers, written out anew: what the tests hold the answers against hangs on no layer.
const (
	goTo  = 1
	meta  = 2
	write = 3
	apply = 4
	empty = 5
)

var kinds = []int{goTo, meta, write, apply, empty}

// noKinds are numbers that no kind has.
var noKinds = []int{math.MinInt, -1 << 32, -65536, -5, -1, 0, 6, 7, 255, 256, 65535, 65536, 65537, 65541, 1<<32 + 1, 1<<32 + 5, math.MaxInt}

// done are actions with their bytes: of each kind, and of each length.
var done = []struct {
	a api.Action
	b []byte
}{
	{api.Action{Kind: 18}, []byte{0, 18, 0, 8, 0, 0, 0, 0}},
	{api.Action{Kind: 17, Ether: 0x8100}, []byte{0, 17, 0, 8, 0x81, 0, 0, 0}},
	{api.Action{Kind: 22, Group: 0x01020304}, []byte{0, 22, 0, 8, 1, 2, 3, 4}},
	{api.Action{Port: 1}, []byte{0, 0, 0, 16, 0, 0, 0, 1, 0, 0, 0, 0, 0, 0, 0, 0}},
	{api.Action{Port: 0xFFFFFFFD, Max: 0x1234}, []byte{0, 0, 0, 16, 0xFF, 0xFF, 0xFF, 0xFD, 0x12, 0x34, 0, 0, 0, 0, 0, 0}},
	{api.Action{Kind: 25, Oxm: api.Oxm{Field: api.EthDst, Value: api.Wide{Lo: 7}}}, []byte{0, 25, 0, 16, 0x80, 0, 6, 6, 0, 0, 0, 0, 0, 7, 0, 0}},
	{api.Action{Kind: 25, Oxm: api.Oxm{Field: api.IPv6Src, Value: api.Wide{Hi: 1, Lo: 2}}}, []byte{0, 25, 0, 24, 0x80, 0, 52, 16, 0, 0, 0, 0, 0, 0, 0, 1, 0, 0, 0, 0, 0, 0, 0, 2}},
}

// faulty are bytes that no list of actions has, with the code of why.
var faulty = []struct {
	b    []byte
	code int
}{
	{[]byte{0, 9, 0, 8, 0, 0, 0, 0}, 0},
	{[]byte{0, 18, 0, 16, 0, 0, 0, 0, 0, 0, 0, 0, 0, 0, 0, 0}, 1},
	{[]byte{0, 18, 0, 16, 0, 0, 0, 0}, 1},
	{[]byte{0, 0, 0, 0, 0, 0, 0, 0}, 1},
	{[]byte{0, 0, 0, 16, 0, 0, 0, 0, 0, 0, 0, 0, 0, 0, 0, 0}, 4},
	{[]byte{0, 18, 0, 8, 0, 0, 0, 1}, 5},
	{bytes.Repeat([]byte{0, 18, 0, 8, 0, 0, 0, 0}, 101), 7},
	{[]byte{0, 22, 0, 8, 0xFF, 0xFF, 0xFF, 1}, 9},
	{[]byte{0, 25, 0, 16, 0x80, 0, 0, 4, 0, 0, 0, 1, 0, 0, 0, 0}, 13},
	{[]byte{0, 25, 0, 8, 0x80, 0, 6, 6}, 14},
	{[]byte{0, 25, 0, 16, 0x80, 0, 13, 4, 0, 1, 0, 1, 0, 0, 0, 0}, 15},
}

// row is n of done's actions, from one of them on, and their bytes.
func row(from, n int) ([]api.Action, []byte) {
	var l []api.Action
	var b []byte
	for i := range n {
		one := done[(from+i)%len(done)]
		l = append(l, one.a)
		b = append(b, one.b...)
	}
	return l, b
}

// piece is an instruction with its bytes.
type piece struct {
	i api.Inst
	b []byte
}

// lay is an instruction of a kind and a length that has the bytes.
func lay(kind, length int, body ...byte) []byte {
	return append([]byte{byte(kind >> 8), byte(kind), byte(length >> 8), byte(length)}, body...)
}

// layActs is an instruction of a kind that has the bytes behind its noughts.
func layActs(kind int, b []byte) []byte {
	return lay(kind, 8+len(b), append(make([]byte, 4), b...)...)
}

func eight(n uint64) []byte {
	var b []byte
	for k := 7; k >= 0; k-- {
		b = append(b, byte(n>>(8*k)))
	}
	return b
}

func metaOf(value, mask uint64) piece {
	b := slices.Concat(lay(meta, 24, 0, 0, 0, 0), eight(value), eight(mask))
	return piece{api.Inst{Kind: meta, Value: api.Wide{Lo: value}, Mask: api.Wide{Lo: mask}}, b}
}

func goOf(table int) piece {
	return piece{api.Inst{Kind: goTo, Table: table}, lay(goTo, 8, byte(table), 0, 0, 0)}
}

func actsOf(kind, from, n int) piece {
	l, b := row(from, n)
	return piece{api.Inst{Kind: kind, Acts: l}, layActs(kind, b)}
}

func clearing() piece { return piece{api.Inst{Kind: empty}, lay(empty, 8, 0, 0, 0, 0)} }

// rights are instructions that may be, of each kind.
func rights() []piece {
	all := []piece{clearing(), metaOf(0, 0), metaOf(math.MaxUint64, math.MaxUint64), metaOf(0, math.MaxUint64), metaOf(0x0102030405060708, 0x0F0F0F0F0F0F0F0F)}
	for _, table := range []int{0, 1, 2, 3, 4, 127, 128, 253, 254} {
		all = append(all, goOf(table))
	}
	for i := range 64 {
		all = append(all, metaOf(0, 1<<i), metaOf(1<<i, 1<<i), metaOf(1<<i, math.MaxUint64))
	}
	for _, kind := range []int{write, apply} {
		for _, n := range []int{0, 1, 2, 3, 7, 14, 99, 100} {
			all = append(all, actsOf(kind, 0, n), actsOf(kind, 6, n))
		}
	}
	return all
}

// oneEach is one instruction of each kind.
func oneEach() []piece {
	return []piece{goOf(2), metaOf(1, 3), actsOf(write, 0, 3), actsOf(apply, 3, 4), clearing()}
}

// join is the list of the pieces, and its bytes.
func join(all ...piece) ([]api.Inst, []byte) {
	var l []api.Inst
	var b []byte
	for _, one := range all {
		l = append(l, one.i)
		b = append(b, one.b...)
	}
	return l, b
}

// equal holds lists together without the layer's own Same.
func equal(a, b []api.Inst) bool {
	return slices.EqualFunc(a, b, func(x, y api.Inst) bool {
		return x.Kind == y.Kind && x.Table == y.Table && x.Value == y.Value && x.Mask == y.Mask && slices.Equal(x.Acts, y.Acts)
	})
}

// copied is l with actions of its own.
func copied(l []api.Inst) []api.Inst {
	l = slices.Clone(l)
	for i := range l {
		l[i].Acts = slices.Clone(l[i].Acts)
	}
	return l
}

func taken(t *testing.T, all ...piece) {
	t.Helper()
	l, b := join(all...)
	if got, e := inst.Encode(l); e != api.OK || !bytes.Equal(got, b) {
		t.Errorf("Encode(%v): %x, %d, want %x", l, got, e, b)
	}
	if got, f := inst.Decode(b); f != (api.Fault{}) || !equal(got, l) {
		t.Errorf("Decode(%x): %v, %v, want %v", b, got, f, l)
	}
}

func notTaken(t *testing.T, l ...api.Inst) {
	t.Helper()
	if got, e := inst.Encode(l); e != api.ErrArg || len(got) != 0 {
		t.Errorf("Encode(%v): %x, %d", l, got, e)
	}
}

func told(t *testing.T, b []byte, kind, code int) {
	t.Helper()
	if l, f := inst.Decode(b); len(l) != 0 || f != (api.Fault{Is: true, Type: kind, Code: code}) {
		if len(b) > 200 {
			b = b[:200]
		}
		t.Errorf("Decode(%x): %v, %v, want (%d, %d)", b, l, f, kind, code)
	}
}

func refused(t *testing.T, b []byte, code int) {
	t.Helper()
	told(t, b, 3, code)
}

// beyond are instructions of which something may not be, though it is their kind's.
func beyond() []api.Inst {
	var all []api.Inst
	for _, table := range []int{math.MinInt, -1 << 32, -256, -255, -1, 255, 256, 257, 510, 65536, 1 << 32, 1<<32 + 1, math.MaxInt} {
		all = append(all, api.Inst{Kind: goTo, Table: table})
	}
	full := api.Wide{Lo: math.MaxUint64}
	for i := range 64 {
		at := uint64(1) << i
		all = append(all, api.Inst{Kind: meta, Value: api.Wide{Lo: at}}, api.Inst{Kind: meta, Value: full, Mask: api.Wide{Lo: math.MaxUint64 &^ at}})
		// The bits from 64 on: of Mask, of Value, of both.
		all = append(all, api.Inst{Kind: meta, Mask: api.Wide{Hi: at}}, api.Inst{Kind: meta, Value: full, Mask: api.Wide{Hi: at, Lo: math.MaxUint64}})
		all = append(all, api.Inst{Kind: meta, Value: api.Wide{Hi: at}}, api.Inst{Kind: meta, Value: api.Wide{Hi: at}, Mask: full})
		all = append(all, api.Inst{Kind: meta, Value: api.Wide{Hi: at}, Mask: api.Wide{Hi: at}}, api.Inst{Kind: meta, Value: api.Wide{Hi: at}, Mask: api.Wide{Hi: at, Lo: math.MaxUint64}})
	}
	many, _ := row(0, 101)
	for _, kind := range []int{write, apply} {
		all = append(all, api.Inst{Kind: kind, Acts: many}, api.Inst{Kind: kind, Acts: []api.Action{{}}}, api.Inst{Kind: kind, Acts: make([]api.Action, 1000)})
		for at := range 4 {
			l, _ := row(0, 3)
			all = append(all, api.Inst{Kind: kind, Acts: slices.Insert(l, at, api.Action{Kind: 18, Port: 1})})
		}
	}
	for _, kind := range noKinds {
		all = append(all, api.Inst{Kind: kind}, api.Inst{Kind: kind, Table: 1}, api.Inst{Kind: kind, Acts: many[:1]}, api.Inst{Kind: kind, Mask: full})
	}
	return all
}

// others are i with something that its kind has not.
func others(i api.Inst) []api.Inst {
	var all []api.Inst
	add := func(change func(*api.Inst)) {
		k := i
		change(&k)
		all = append(all, k)
	}
	if i.Kind != goTo {
		add(func(k *api.Inst) { k.Table = 1 })
		add(func(k *api.Inst) { k.Table = -1 })
		add(func(k *api.Inst) { k.Table = 256 })
		add(func(k *api.Inst) { k.Table = 1 << 32 })
	}
	if i.Kind != meta {
		add(func(k *api.Inst) { k.Value.Lo = 1 })
		add(func(k *api.Inst) { k.Value.Hi = 1 })
		add(func(k *api.Inst) { k.Mask.Lo = 1 })
		add(func(k *api.Inst) { k.Mask.Hi = 1 })
		add(func(k *api.Inst) { k.Value.Lo, k.Mask.Lo = 1, 1 })
	}
	if i.Kind != write && i.Kind != apply {
		add(func(k *api.Inst) { k.Acts = []api.Action{{Kind: 18}} })
		add(func(k *api.Inst) { k.Acts = []api.Action{{}} })
		add(func(k *api.Inst) { k.Acts = make([]api.Action, 101) })
	}
	return all
}

func TestRight(t *testing.T) { // P14.1
	for _, one := range rights() {
		if !inst.Right(one.i) {
			t.Errorf("Right(%v): false", one.i)
		}
		for _, k := range others(one.i) {
			if inst.Right(k) {
				t.Errorf("Right(%v): true", k)
			}
		}
	}
	for _, i := range beyond() {
		if inst.Right(i) {
			t.Errorf("Right(%v): true", i)
		}
	}
}

func TestNoActs(t *testing.T) { // P14.1, P14.2, R5: none, whether nil or empty
	for _, kind := range kinds {
		bare := api.Inst{Kind: kind}
		made := api.Inst{Kind: kind, Acts: []api.Action{}}
		room := api.Inst{Kind: kind, Acts: []api.Action{{Port: 1}, {Kind: 99}}[:0]}
		for _, i := range []api.Inst{bare, made, room} {
			if !inst.Right(i) || !inst.Same([]api.Inst{bare}, []api.Inst{i}) || !inst.Same([]api.Inst{i}, []api.Inst{bare}) {
				t.Errorf("Right, Same of %v", i)
			}
			a, _ := inst.Encode([]api.Inst{bare})
			if b, e := inst.Encode([]api.Inst{i}); e != api.OK || !bytes.Equal(a, b) {
				t.Errorf("Encode(%v): %x, %d", i, b, e)
			}
		}
	}
	for _, l := range [][]api.Inst{nil, {}, beyond()[:0]} {
		if b, e := inst.Encode(l); e != api.OK || len(b) != 0 {
			t.Errorf("Encode of none: %x, %d", b, e)
		}
	}
	for _, b := range [][]byte{nil, {}, clearing().b[:0]} {
		if l, f := inst.Decode(b); len(l) != 0 || f != (api.Fault{}) {
			t.Errorf("Decode of nothing: %v, %v", l, f)
		}
	}
}

func TestSpelt(t *testing.T) { // P14.2: told without a second reckoning, and api's kinds by name
	for _, one := range []piece{
		{api.Inst{Kind: api.InstGoto, Table: 2}, []byte{0, 1, 0, 8, 2, 0, 0, 0}},
		{api.Inst{Kind: api.InstGoto}, []byte{0, 1, 0, 8, 0, 0, 0, 0}},
		{api.Inst{Kind: api.InstGoto, Table: 254}, []byte{0, 1, 0, 8, 0xFE, 0, 0, 0}},
		{api.Inst{Kind: api.InstMeta, Value: api.Wide{Lo: 0x0102030405060708}, Mask: api.Wide{Lo: 0x8FFFFFFFFFFFFFFF}}, []byte{0, 2, 0, 24, 0, 0, 0, 0, 1, 2, 3, 4, 5, 6, 7, 8, 0x8F, 0xFF, 0xFF, 0xFF, 0xFF, 0xFF, 0xFF, 0xFF}},
		{api.Inst{Kind: api.InstMeta}, []byte{0, 2, 0, 24, 0, 0, 0, 0, 0, 0, 0, 0, 0, 0, 0, 0, 0, 0, 0, 0, 0, 0, 0, 0}},
		{api.Inst{Kind: api.InstWrite}, []byte{0, 3, 0, 8, 0, 0, 0, 0}},
		{api.Inst{Kind: api.InstWrite, Acts: []api.Action{{Kind: api.ActPop}}}, []byte{0, 3, 0, 16, 0, 0, 0, 0, 0, 18, 0, 8, 0, 0, 0, 0}},
		{api.Inst{Kind: api.InstApply}, []byte{0, 4, 0, 8, 0, 0, 0, 0}},
		{api.Inst{Kind: api.InstApply, Acts: []api.Action{{Kind: api.ActGroup, Group: 7}, {Kind: api.ActPop}}}, []byte{0, 4, 0, 24, 0, 0, 0, 0, 0, 22, 0, 8, 0, 0, 0, 7, 0, 18, 0, 8, 0, 0, 0, 0}},
		{api.Inst{Kind: api.InstClear}, []byte{0, 5, 0, 8, 0, 0, 0, 0}},
	} {
		taken(t, one)
	}
}

func TestBothWays(t *testing.T) { // P14.2, P14.3: each alone, each pair, each order of all kinds
	all := rights()
	for _, one := range all {
		taken(t, one)
		for _, two := range oneEach() {
			if one.i.Kind != two.i.Kind {
				taken(t, one, two)
				taken(t, two, one)
			}
		}
	}
	orders(oneEach(), func(l []piece) {
		for n := range len(l) + 1 {
			taken(t, l[:n]...)
		}
	})
	taken(t, goOf(254), metaOf(math.MaxUint64, math.MaxUint64), actsOf(write, 0, 100), actsOf(apply, 0, 100), clearing())
}

func TestGreatest(t *testing.T) { // P14.2: the most bytes that a list may come to
	long := done[len(done)-1]
	full := func(kind int) piece {
		return piece{api.Inst{Kind: kind, Acts: slices.Repeat([]api.Action{long.a}, 100)}, layActs(kind, bytes.Repeat(long.b, 100))}
	}
	all := []piece{full(write), goOf(254), full(apply), metaOf(1, 1), clearing()}
	if _, b := join(all...); len(b) != 4856 {
		t.Errorf("%d bytes", len(b))
	}
	taken(t, all...)
}

// orders tells each order of all.
func orders(all []piece, tell func(l []piece)) {
	var next func(k int)
	next = func(k int) {
		if k == len(all) {
			tell(all)
			return
		}
		for i := k; i < len(all); i++ {
			all[k], all[i] = all[i], all[k]
			next(k + 1)
			all[k], all[i] = all[i], all[k]
		}
	}
	next(0)
}

func TestEncodeOfWrong(t *testing.T) { // P14.2: first, in the midst, last, alone
	wrong := beyond()
	for _, one := range rights() {
		wrong = append(wrong, others(one.i)...)
	}
	for _, i := range wrong {
		notTaken(t, i)
		var l []api.Inst
		for _, one := range oneEach() {
			if one.i.Kind != i.Kind {
				l = append(l, one.i)
			}
		}
		for at := range len(l) + 1 {
			notTaken(t, slices.Insert(slices.Clone(l), at, i)...)
		}
	}
}

func TestTwice(t *testing.T) { // P14.2: a kind that is there twice, whatever stands between
	all := rights()
	for _, one := range all {
		for _, two := range oneEach() {
			if one.i.Kind == two.i.Kind {
				notTaken(t, one.i, two.i)
				notTaken(t, one.i, one.i)
				refused(t, slices.Concat(one.b, two.b), 9)
				refused(t, slices.Concat(one.b, one.b), 9)
				refused(t, slices.Concat(one.b, one.b, one.b), 9)
			}
		}
	}
	orders(oneEach(), func(l []piece) {
		for n := 1; n <= len(l); n++ {
			for _, again := range l[:n] {
				some, b := join(append(slices.Clone(l[:n]), again)...)
				notTaken(t, some...)
				refused(t, b, 9)
				refused(t, append(b, 1), 9)
			}
		}
	})
	notTaken(t, make([]api.Inst, 100000)...)
	notTaken(t, slices.Repeat([]api.Inst{{Kind: empty}}, 100000)...)
}

func TestDecodeOfTooFew(t *testing.T) { // P14.2: bytes that end within an instruction
	for _, one := range rights() {
		for n := 1; n < min(len(one.b), 100); n++ {
			refused(t, one.b[:n], 7)
		}
		refused(t, one.b[:len(one.b)-1], 7)
	}
	orders(oneEach(), func(l []piece) {
		_, b := join(l...)
		from := 0
		for k, one := range l {
			some, _ := join(l[:k]...)
			if got, f := inst.Decode(b[:from]); f.Is || !equal(got, some) {
				t.Errorf("Decode(%x): %v, %v", b[:from], got, f)
			}
			for n := 1; n < len(one.b); n++ {
				refused(t, b[:from+n], 7)
			}
			from += len(one.b)
		}
	})
	// Fewer than 8 bytes, whatever they say.
	for n := 1; n < 8; n++ {
		for _, x := range []byte{0, 1, 8, 0xFF} {
			refused(t, bytes.Repeat([]byte{x}, n), 7)
			refused(t, append(clearing().b, bytes.Repeat([]byte{x}, n)...), 7)
		}
	}
}

func TestDecodeOfLengths(t *testing.T) { // P14.2: below 8, no multiple of 8, beyond: whatever the kind is
	for _, kind := range []int{goTo, meta, write, apply, empty, 0, 6, 7, 255, 256, 65535} {
		for length := range 8 {
			refused(t, lay(kind, length, make([]byte, 60)...), 7)
		}
		for length := 9; length < 300; length++ {
			if length%8 != 0 {
				refused(t, lay(kind, length, make([]byte, length-4)...), 7)
				refused(t, lay(kind, length, make([]byte, 400)...), 7)
			}
			refused(t, lay(kind, length, make([]byte, length-5)...), 7)
		}
		for _, length := range []int{65527, 65529, 65535} {
			refused(t, lay(kind, length, make([]byte, 70000)...), 7)
		}
		refused(t, lay(kind, 65528, make([]byte, 65523)...), 7)
	}
}

func TestDecodeOfAnotherLength(t *testing.T) { // P14.2: that of another kind
	for length := 8; length <= 65528; length += 8 * (1 + length/256) {
		body := make([]byte, length-4)
		for _, kind := range []int{goTo, empty} {
			if length != 8 {
				refused(t, lay(kind, length, body...), 7)
			}
		}
		if length != 24 {
			refused(t, lay(meta, length, body...), 7)
			refused(t, append(lay(meta, length, body...), make([]byte, 16)...), 7)
		}
		for _, kind := range []int{write, apply} {
			if length != 8 { // noughts are an output that is cut off, or too short
				told(t, lay(kind, length, body...), 2, 1)
			}
		}
	}
}

func TestDecodeOfEachKind(t *testing.T) { // P14.2: kinds that are none, whatever else is wrong
	behind := metaOf(1, 1).b
	for kind := range 65536 {
		code := 0
		switch kind {
		case goTo, meta, write, apply, empty:
			continue
		case 6:
			code = 1
		}
		refused(t, lay(kind, 8, 0, 0, 0, 0), code)
		refused(t, lay(kind, 8, 1, 2, 3, 4), code)
		refused(t, lay(kind, 16, 0, 0, 0, 0, 0xFF, 0xFF, 0xFF, 0xFF, 0, 0, 0, 1), code)
		refused(t, slices.Concat(behind, lay(kind, 8, 0, 0, 0, 0), behind), code)
	}
}

func TestDecodeOfNoughts(t *testing.T) { // P14.2: each of them, each bit
	for _, one := range oneEach() {
		from := 4
		if one.i.Kind == goTo {
			from = 5
		}
		for i := from; i < 8; i++ {
			for bit := range 8 {
				b := bytes.Clone(one.b)
				b[i] = 1 << bit
				refused(t, b, 7)
				refused(t, append(b, 0, 0, 0), 7)
				for _, two := range oneEach() {
					if two.i.Kind != one.i.Kind {
						refused(t, slices.Concat(two.b, b), 7)
					}
				}
			}
		}
	}
}

func TestDecodeOfGoto(t *testing.T) { // P14.2: each table there is
	for table := range 255 {
		taken(t, goOf(table))
	}
	refused(t, lay(goTo, 8, 255, 0, 0, 0), 2)
	refused(t, slices.Concat(clearing().b, lay(goTo, 8, 255, 0, 0, 0), clearing().b), 2)
}

func TestDecodeOfMeta(t *testing.T) { // P14.2: Value's bits beside Mask
	for i := range 64 {
		at := uint64(1) << i
		refused(t, metaOf(at, 0).b, 4)
		refused(t, metaOf(at, math.MaxUint64&^at).b, 4)
		refused(t, metaOf(math.MaxUint64, math.MaxUint64&^at).b, 4)
		refused(t, slices.Concat(clearing().b, metaOf(at, 0).b, clearing().b), 4)
	}
}

func TestDecodeOfActs(t *testing.T) { // P14.2: each fault of actions, alone, and behind others
	for i, one := range faulty {
		for _, kind := range []int{write, apply} {
			told(t, layActs(kind, one.b), 2, one.code)
			for _, n := range []int{1, 3, 100} {
				_, ahead := row(i, n)
				told(t, layActs(kind, slices.Concat(ahead, one.b)), 2, one.code)
			}
			// Ahead of whatever is wrong behind; behind what is wrong ahead.
			b := layActs(kind, one.b)
			told(t, slices.Concat(goOf(1).b, b, b), 2, one.code)
			told(t, slices.Concat(b, []byte{1}), 2, one.code)
			told(t, slices.Concat(b, lay(9, 8, 0, 0, 0, 0)), 2, one.code)
			refused(t, slices.Concat(lay(9, 8, 0, 0, 0, 0), b), 0)
			refused(t, slices.Concat(goOf(255).b, b), 2)
			refused(t, slices.Concat(metaOf(1, 2).b, b), 4)
			for _, two := range faulty {
				told(t, slices.Concat(b, layActs(7-kind, two.b)), 2, one.code)
			}
		}
	}
	// The length ends within an action: what stands behind is none of its own.
	for _, one := range done {
		for length := 16; length < 8+len(one.b); length += 8 {
			b := layActs(apply, one.b)
			b[3] = byte(length)
			told(t, b, 2, 1)
		}
	}
}

func TestMoreThan60000(t *testing.T) { // P14.2: what is so long is refused for what it is
	pop := done[0].b
	for _, n := range []int{59992, 60000, 60008, 65520} {
		b := layActs(apply, bytes.Repeat(pop, n/8))
		told(t, b, 2, 7)
		told(t, append(b, 1, 2, 3), 2, 7)
		told(t, slices.Concat(clearing().b, layActs(write, bytes.Repeat(pop, n/8))), 2, 7)
		// A fault of a later action comes ahead of there being too many.
		b = layActs(apply, bytes.Repeat(pop, n/8))
		b[len(b)-1] = 1
		told(t, b, 2, 5)
	}
	refused(t, bytes.Repeat(clearing().b, 7500), 9)
	refused(t, bytes.Repeat(clearing().b, 20000), 9)
	refused(t, make([]byte, 60000), 7)
	refused(t, make([]byte, 200000), 7)
	refused(t, bytes.Repeat([]byte{0xFF}, 65536), 7)
	refused(t, bytes.Repeat([]byte{0, 9, 0, 8, 0, 0, 0, 0}, 8000), 0)
}

func TestWhichFaultComesFirst(t *testing.T) { // P14.2: two at once, told without a second reckoning
	clr := []byte{0, 5, 0, 8, 0, 0, 0, 0}
	for _, one := range []struct {
		b    []byte
		code int
	}{
		{[]byte{0, 9, 0, 7, 0, 0, 0, 0}, 7},  // below 8, and no kind
		{[]byte{0, 6, 0, 9, 0, 0, 0, 0}, 7},  // no multiple of 8, and no kind
		{[]byte{0, 6, 0, 16, 0, 0, 0, 0}, 7}, // beyond, and no kind
		{[]byte{0, 9, 0, 8, 0, 0, 0, 1}, 0},  // no kind, and no noughts
		{[]byte{0, 6, 0, 8, 0, 0, 0, 1}, 1},
		{[]byte{0, 6, 0, 16, 0, 0, 0, 1, 0, 0, 0, 0, 0, 0, 0, 0}, 1},
		{[]byte{0, 1, 0, 16, 255, 0, 0, 0, 0, 0, 0, 0, 0, 0, 0, 0}, 7},                                // another length, and no table
		{[]byte{0, 1, 0, 8, 255, 0, 0, 1}, 7},                                                         // no noughts, and no table
		{[]byte{0, 2, 0, 24, 0, 0, 0, 1, 0, 0, 0, 0, 0, 0, 0, 1, 0, 0, 0, 0, 0, 0, 0, 0}, 7},          // no noughts, and beside Mask
		{[]byte{0, 2, 0, 16, 0, 0, 0, 0, 0, 0, 0, 0, 0, 0, 0, 1}, 7},                                  // another length, and no Mask
		{[]byte{0, 3, 0, 16, 0, 1, 0, 0, 0, 9, 0, 8, 0, 0, 0, 0}, 7},                                  // no noughts, and no action
		{[]byte{0, 5, 0, 8, 0, 0, 0, 0, 0, 5, 0, 4, 0, 0, 0, 0}, 7},                                   // below 8, and twice
		{[]byte{0, 5, 0, 8, 0, 0, 0, 0, 0, 5, 0, 16, 0, 0, 0, 0, 0, 0, 0, 0, 0, 0, 0, 0}, 7},          // another length, and twice
		{[]byte{0, 5, 0, 8, 0, 0, 0, 0, 0, 5, 0, 8, 0, 0, 0, 1}, 7},                                   // no noughts, and twice
		{[]byte{0, 1, 0, 8, 1, 0, 0, 0, 0, 1, 0, 8, 255, 0, 0, 0}, 9},                                 // twice, and no table
		{[]byte{0, 4, 0, 8, 0, 0, 0, 0, 0, 4, 0, 16, 0, 0, 0, 0, 0, 9, 0, 8, 0, 0, 0, 0}, 9},          // twice, and no action
		{[]byte{0, 1, 0, 8, 255, 0, 0, 0, 0, 9, 0, 8, 0, 0, 0, 0}, 2},                                 // no table, and then no kind
		{[]byte{0, 1, 0, 8, 255, 0, 0, 0, 0, 1, 0, 8, 1, 0, 0, 0}, 2},                                 // no table, and then twice
		{[]byte{0, 9, 0, 8, 0, 0, 0, 0, 0, 6, 0, 8, 0, 0, 0, 0}, 0},                                   // no kind, and then 6
		{[]byte{0, 6, 0, 8, 0, 0, 0, 0, 0, 9, 0, 8, 0, 0, 0, 0}, 1},                                   // 6, and then no kind
		{slices.Concat(clr, clr, []byte{0, 9, 0, 8, 0, 0, 0, 0}), 9},                                  // twice, and then no kind
		{slices.Concat(metaOf(0, 0).b, metaOf(1, 0).b), 9},                                            // twice, and beside Mask
		{slices.Concat(metaOf(1, 0).b, metaOf(1, 0).b), 4},                                            // beside Mask, and then twice
		{slices.Concat(lay(goTo, 8, 1, 0, 0, 0), lay(meta, 8, 0, 0, 0, 0), lay(6, 8, 0, 0, 0, 0)), 7}, // another length, and then 6
	} {
		refused(t, one.b, one.code)
	}
}

func TestSame(t *testing.T) { // P14.1, R5
	same := func(a, b []api.Inst, want bool) {
		t.Helper()
		if inst.Same(a, b) != want || inst.Same(b, a) != want {
			t.Errorf("Same(%v, %v): not %v", a, b, want)
		}
	}
	same(nil, nil, true)
	same(nil, []api.Inst{}, true)
	same(nil, []api.Inst{{}}, false)
	same([]api.Inst{{}}, []api.Inst{{}, {}}, false)
	changes := []func(*api.Inst){
		func(i *api.Inst) { i.Kind++ }, func(i *api.Inst) { i.Table++ }, func(i *api.Inst) { i.Value.Hi++ }, func(i *api.Inst) { i.Value.Lo++ },
		func(i *api.Inst) { i.Mask.Hi++ }, func(i *api.Inst) { i.Mask.Lo++ }, func(i *api.Inst) { i.Acts = append(i.Acts, api.Action{}) },
		func(i *api.Inst) { i.Acts = []api.Action{{Kind: 99}} },
	}
	orders(oneEach(), func(all []piece) {
		l, _ := join(all...)
		same(l, copied(l), true)
		same(l, l[:len(l)-1], false)
		same(l, l[1:], false)
		same(l, append(copied(l), api.Inst{}), false)
		for k := range l {
			for _, change := range changes {
				other := copied(l)
				change(&other[k])
				same(l, other, false)
			}
			for m := range k {
				other := copied(l)
				other[k], other[m] = other[m], other[k]
				same(l, other, false)
			}
			if n := len(l[k].Acts); n > 1 { // the same but for the order of actions, or for one of them
				other := copied(l)
				other[k].Acts[0], other[k].Acts[n-1] = other[k].Acts[n-1], other[k].Acts[0]
				same(l, other, false)
				other = copied(l)
				other[k].Acts[n-1].Oxm.Value.Hi++
				same(l, other, false)
				other[k].Acts = other[k].Acts[:n-1]
				same(l, other, false)
			}
		}
	})
	wrong := beyond()
	same(wrong, copied(wrong), true)
	same(wrong, wrong[1:], false)
}

func TestOf(t *testing.T) { // P14.1: there once, twice, and not
	none := func(l []api.Inst, kind int) {
		t.Helper()
		if i, ok := inst.Of(l, kind); ok || !equal([]api.Inst{i}, []api.Inst{{}}) || i.Acts != nil {
			t.Errorf("Of(%v, %d): %v, %v", l, kind, i, ok)
		}
	}
	first := func(l []api.Inst, kind int, want api.Inst) {
		t.Helper()
		if i, ok := inst.Of(l, kind); !ok || !equal([]api.Inst{i}, []api.Inst{want}) {
			t.Errorf("Of(%v, %d): %v, %v", l, kind, i, ok)
		}
	}
	for _, kind := range append(slices.Clone(kinds), noKinds...) {
		none(nil, kind)
		none([]api.Inst{}, kind)
	}
	orders(oneEach(), func(all []piece) {
		l, _ := join(all...)
		for k, i := range l {
			first(l, i.Kind, i)
			none(slices.Delete(slices.Clone(l), k, k+1), i.Kind)
			other := api.Inst{Kind: i.Kind, Table: 77, Value: api.Wide{Hi: 5}, Acts: []api.Action{{Kind: 99}}}
			first(append(slices.Clone(l), other), i.Kind, i)
			first(append([]api.Inst{other}, l...), i.Kind, other)
		}
		for _, kind := range noKinds {
			none(l, kind)
		}
	})
	// A kind that is none may stand in a list, and is found.
	l := []api.Inst{{Kind: 9, Table: 1}, {Table: 2}, {Kind: -1, Table: 3}, {Kind: 9, Table: 4}, {Kind: math.MaxInt, Table: 5}}
	first(l, 9, l[0])
	first(l, 0, l[1])
	first(l, -1, l[2])
	first(l, math.MaxInt, l[4])
}

func TestOfIsApart(t *testing.T) { // R3: what is found has actions of its own
	list, _ := row(0, 7)
	room := append(slices.Clone(list), api.Action{Kind: 98}, api.Action{Kind: 99})
	was := slices.Clone(room)
	l := []api.Inst{{Kind: empty}, {Kind: apply, Acts: room[:len(list)]}}
	i, _ := inst.Of(l, apply)
	more := i.Acts[:cap(i.Acts)]
	for k := range more {
		more[k] = api.Action{Kind: 55}
	}
	_ = append(i.Acts, api.Action{Kind: 56})
	if !slices.Equal(room, was) {
		t.Errorf("Of shares actions: %v", room)
	}
	i, _ = inst.Of(l, apply)
	clear(room)
	if !slices.Equal(i.Acts, list) {
		t.Errorf("Of shares actions: %v", i.Acts)
	}
	room = slices.Clone(was)
	i, _ = inst.Of([]api.Inst{{Kind: write, Acts: room[:0]}}, write)
	if _ = append(i.Acts, api.Action{Kind: 55}); !slices.Equal(room, was) {
		t.Errorf("Of shares the room of no actions: %v", room)
	}
}

// draws answers numbers below n, the same ones each time.
func draws() func(n int) int {
	next := uint64(1)
	return func(n int) int {
		next = next*6364136223846793005 + 1442695040888963407
		return int(next >> 33 % uint64(n))
	}
}

// some are instructions of kinds that are apart, as they are drawn.
func some(draw func(n int) int) []piece {
	all := []piece{goOf(draw(255)), metaOf(1<<draw(64), math.MaxUint64), actsOf(write, draw(7), draw(5)), actsOf(apply, draw(7), draw(101)), clearing()}
	for k := range all {
		m := draw(k + 1)
		all[k], all[m] = all[m], all[k]
	}
	return all[:draw(6)]
}

func TestThereAndBack(t *testing.T) { // P14.3
	draw := draws()
	for range 5000 {
		l, _ := join(some(draw)...)
		b, e := inst.Encode(l)
		if got, f := inst.Decode(b); e != api.OK || f.Is || !inst.Same(got, l) {
			t.Errorf("Decode of Encode of %v: %v, %v", l, got, f)
		}
	}
}

func TestBackAndThere(t *testing.T) { // P14.3: of bytes that are nearly right, or are
	draw := draws()
	read, not := 0, 0
	for range 40000 {
		l := some(draw)
		if draw(4) == 0 {
			l = append(l, oneEach()[draw(5)])
		}
		_, b := join(l...)
		for range draw(3) {
			if len(b) > 0 {
				b[draw(min(len(b), 40))] ^= 1 << draw(8)
			}
		}
		back, f := inst.Decode(b)
		if f.Is {
			not++
			continue
		}
		read++
		if got, e := inst.Encode(back); e != api.OK || !bytes.Equal(got, b) || slices.ContainsFunc(back, func(i api.Inst) bool { return !inst.Right(i) }) {
			t.Errorf("Encode of Decode of %x: %x, %d", b, got, e)
		}
	}
	if read < 5000 || not < 5000 {
		t.Errorf("too few of a kind: %d, %d", read, not)
	}
}

// roomy is l with room behind it, and behind the actions of each.
func roomy(l []api.Inst) []api.Inst {
	l = slices.Clone(l)
	for i := range l {
		l[i].Acts = append(slices.Clone(l[i].Acts), api.Action{Kind: 98}, api.Action{Kind: 99})[:len(l[i].Acts)]
	}
	return append(l, api.Inst{Kind: 77}, api.Inst{Kind: empty})[:len(l)]
}

func TestListsStay(t *testing.T) { // R3: what is handed in, and its spare room
	all, _ := join(oneEach()...)
	twice := append(slices.Clone(all), all[3])
	for _, given := range [][]api.Inst{nil, all[:1], all, twice, beyond()} {
		l := roomy(given)
		was := copied(l[:len(l)+2])
		var rooms [][]api.Action
		for _, i := range l {
			rooms = append(rooms, slices.Clone(i.Acts[:len(i.Acts)+2]))
		}
		inst.Encode(l)
		inst.Same(l, l)
		inst.Same(l, given)
		for _, i := range l {
			inst.Right(i)
			inst.Of(l, i.Kind)
		}
		if !equal(l[:len(l)+2], was) {
			t.Errorf("a list was changed: %v", l)
		}
		for k, i := range l {
			if !slices.Equal(i.Acts[:len(i.Acts)+2], rooms[k]) {
				t.Errorf("actions were changed: %v", i.Acts[:len(i.Acts)+2])
			}
		}
	}
}

func TestBytesStay(t *testing.T) { // R3, R4
	_, all := join(oneEach()...)
	for _, b := range [][]byte{nil, all[:8], all, all[:len(all)-1], append(bytes.Clone(all), all...), layActs(apply, faulty[6].b)} {
		room := append(bytes.Clone(b), clearing().b...)
		was := bytes.Clone(room)
		// What stands in the spare room is none of b's bytes.
		l, f := inst.Decode(room[:len(b)])
		if !bytes.Equal(room, was) {
			t.Errorf("Decode changed b's memory: %x", room)
		}
		clear(room)
		if again, g := inst.Decode(bytes.Clone(b)); g != f || !equal(again, l) {
			t.Errorf("Decode of the same: %v, %v, and %v, %v", l, f, again, g)
		}
	}
}

func TestAnswersAreApart(t *testing.T) { // R3
	want, b := join(oneEach()...)
	kept, _ := inst.Encode(want)
	other, _ := inst.Encode(want)
	other = other[:cap(other)]
	for i := range other {
		other[i] = 0xEE
	}
	if !bytes.Equal(kept, b) {
		t.Errorf("Encode shares its answers: %x", kept)
	}
	l, _ := inst.Decode(b)
	more, _ := inst.Decode(b)
	for _, i := range more {
		clear(i.Acts[:cap(i.Acts)])
	}
	clear(more[:cap(more)])
	if !equal(l, want) {
		t.Errorf("Decode shares its answers: %v", l)
	}
	// Nor do two lists of one answer.
	clear(l[2].Acts[:cap(l[2].Acts)])
	if !slices.Equal(l[3].Acts, want[3].Acts) {
		t.Errorf("Decode's lists share memory: %v", l[3].Acts)
	}
}
