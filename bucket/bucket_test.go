package bucket_test

import (
	"bytes"
	"fmt"
	"math"
	"slices"
	"testing"

	"weirbox/api"
	"weirbox/bucket"
)

// done are actions with their bytes, told without a second reckoning: of each kind, and of each length.
var done = []struct {
	a api.Action
	b []byte
}{
	{api.Action{Kind: 18}, []byte{0, 18, 0, 8, 0, 0, 0, 0}},
	{api.Action{Kind: 25, Oxm: api.Oxm{Field: api.IPv6Src, Value: api.Wide{Hi: 1, Lo: 2}}}, []byte{0, 25, 0, 24, 0x80, 0, 52, 16, 0, 0, 0, 0, 0, 0, 0, 1, 0, 0, 0, 0, 0, 0, 0, 2}},
	{api.Action{Kind: 17, Ether: 0x8100}, []byte{0, 17, 0, 8, 0x81, 0, 0, 0}},
	{api.Action{Port: 1}, []byte{0, 0, 0, 16, 0, 0, 0, 1, 0, 0, 0, 0, 0, 0, 0, 0}},
	{api.Action{Kind: 22, Group: 0x01020304}, []byte{0, 22, 0, 8, 1, 2, 3, 4}},
	{api.Action{Port: 0xFFFFFFFD, Max: 0x1234}, []byte{0, 0, 0, 16, 0xFF, 0xFF, 0xFF, 0xFD, 0x12, 0x34, 0, 0, 0, 0, 0, 0}},
	{api.Action{Kind: 25, Oxm: api.Oxm{Field: api.EthDst, Value: api.Wide{Lo: 7}}}, []byte{0, 25, 0, 16, 0x80, 0, 6, 6, 0, 0, 0, 0, 0, 7, 0, 0}},
}

// faulty are bytes that no list of actions has, with the code of why: each code that there is.
var faulty = []struct {
	b    []byte
	code int
}{
	{[]byte{0, 9, 0, 8, 0, 0, 0, 0}, 0},
	{[]byte{0, 18, 0, 16, 0, 0, 0, 0, 0, 0, 0, 0, 0, 0, 0, 0}, 1},
	{[]byte{0, 0, 0, 0, 0, 0, 0, 0}, 1},
	{[]byte{0, 18, 0, 9, 0, 0, 0, 0}, 1},
	{[]byte{0, 18, 0, 16, 0, 0, 0, 0}, 1}, // more than the bucket has
	{[]byte{0, 0, 0, 16, 0, 0, 0, 0, 0, 0, 0, 0, 0, 0, 0, 0}, 4},
	{[]byte{0, 18, 0, 8, 0, 0, 0, 1}, 5},
	{[]byte{0, 17, 0, 8, 0x88, 0x47, 0, 0}, 5},
	{bytes.Repeat([]byte{0, 18, 0, 8, 0, 0, 0, 0}, 101), 7},
	{[]byte{0, 22, 0, 8, 0xFF, 0xFF, 0xFF, 1}, 9},
	{[]byte{0, 25, 0, 16, 0x80, 0, 0, 4, 0, 0, 0, 1, 0, 0, 0, 0}, 13},
	{[]byte{0, 25, 0, 8, 0x80, 0, 6, 6}, 14},
	{[]byte{0, 25, 0, 16, 0x80, 0, 13, 4, 0, 1, 0, 1, 0, 0, 0, 0}, 15},
}

// wrongActs are lists of actions that acts refuses.
func wrongActs() [][]api.Action {
	many, _ := row(0, 101)
	all := [][]api.Action{many, make([]api.Action, 1000), {{}}, {{Port: 0xFFFFFF01}}, {{Kind: 1}}, {{Kind: 22, Group: -1}}, {{Kind: 17}}, {{Kind: 25}}}
	for at := range 4 {
		l, _ := row(0, 3)
		all = append(all, slices.Insert(l, at, api.Action{Kind: 18, Port: 1}))
	}
	return all
}

// row is n of done's actions, from one of them on, and their bytes.
func row(from, n int) ([]api.Action, []byte) {
	var l []api.Action
	var b []byte
	for i := range n {
		one := done[(from+i)%len(done)]
		l = append(l, one.a)
		b = append(b, one.b...)
	}
	return l, b
}

// piece is a bucket with its bytes.
type piece struct {
	x api.Bucket
	b []byte
}

// lay is the bytes of a bucket that says it has a length.
func lay(length int, weight, watch, watchGroup uint32, acts []byte) []byte {
	b := []byte{byte(length >> 8), byte(length), byte(weight >> 8), byte(weight)}
	for _, n := range []uint32{watch, watchGroup} {
		b = append(b, byte(n>>24), byte(n>>16), byte(n>>8), byte(n))
	}
	b = append(b, 0, 0, 0, 0)
	return append(b, acts...)
}

// holding is the bytes of a bucket that has those of its actions.
func holding(acts []byte) []byte {
	return lay(16+len(acts), 1, 2, 3, acts)
}

// of is the bucket with so many actions.
func of(weight, watch, watchGroup, from, n int) piece {
	l, b := row(from, n)
	return piece{api.Bucket{Weight: weight, Watch: watch, WatchGroup: watchGroup, Acts: l}, lay(16+len(b), uint32(weight), uint32(watch), uint32(watchGroup), b)}
}

// some are n buckets, no two next to one another the same.
func some(n int) []piece {
	var all []piece
	for i := range n {
		all = append(all, of(i, 0xFFFFFFFF-i, 3*i, i, i%5))
	}
	return all
}

// join is the list of the pieces, and its bytes.
func join(all ...piece) ([]api.Bucket, []byte) {
	var l []api.Bucket
	var b []byte
	for _, one := range all {
		l = append(l, one.x)
		b = append(b, one.b...)
	}
	return l, b
}

// equal holds lists together without the layer's own Same.
func equal(a, b []api.Bucket) bool {
	return slices.EqualFunc(a, b, func(x, y api.Bucket) bool {
		return x.Weight == y.Weight && x.Watch == y.Watch && x.WatchGroup == y.WatchGroup && slices.Equal(x.Acts, y.Acts)
	})
}

// copied is l with actions of its own.
func copied(l []api.Bucket) []api.Bucket {
	l = slices.Clone(l)
	for i := range l {
		l[i].Acts = slices.Clone(l[i].Acts)
	}
	return l
}

// short is what is told of a list, or of bytes, if a test fails.
func short(x any) string {
	text := fmt.Sprintf("%x", x)
	return text[:min(len(text), 300)]
}

func taken(t *testing.T, all ...piece) {
	t.Helper()
	l, b := join(all...)
	if got, e := bucket.Encode(l); e != api.OK || !bytes.Equal(got, b) {
		t.Errorf("Encode(%s): %s, %d, want %s", short(l), short(got), e, short(b))
	}
	if got, f := bucket.Decode(b); f != (api.Fault{}) || !equal(got, l) {
		t.Errorf("Decode(%s): %s, %v, want %s", short(b), short(got), f, short(l))
	}
}

func notTaken(t *testing.T, l ...api.Bucket) {
	t.Helper()
	if got, e := bucket.Encode(l); e != api.ErrArg || len(got) != 0 {
		t.Errorf("Encode(%s): %s, %d", short(l), short(got), e)
	}
}

func told(t *testing.T, b []byte, kind, code int) {
	t.Helper()
	if l, f := bucket.Decode(b); len(l) != 0 || f != (api.Fault{Is: true, Type: kind, Code: code}) {
		t.Errorf("Decode(%s): %s, %v, want (%d, %d)", short(b), short(l), f, kind, code)
	}
}

// beyond are buckets of which one thing may not be.
func beyond() []api.Bucket {
	var all []api.Bucket
	for _, n := range []int{math.MinInt, -1 << 32, -65536, -1, 1 << 16, 1<<16 + 1, 1 << 32, 1<<32 + 1, math.MaxInt} {
		all = append(all, api.Bucket{Weight: n})
		if n < 0 || n > 0xFFFFFFFF {
			all = append(all, api.Bucket{Watch: n}, api.Bucket{WatchGroup: n})
		}
	}
	for _, l := range wrongActs() {
		all = append(all, api.Bucket{Acts: l}, api.Bucket{Weight: 65535, Watch: 0xFFFFFFFF, WatchGroup: 0xFFFFFFFF, Acts: l})
	}
	return all
}

func TestNone(t *testing.T) { // P15.1, R5
	for _, l := range [][]api.Bucket{nil, {}, beyond()[:0]} {
		if b, e := bucket.Encode(l); e != api.OK || len(b) != 0 {
			t.Errorf("Encode of none: %x, %d", b, e)
		}
	}
	for _, b := range [][]byte{nil, {}, holding(nil)[:0]} {
		if l, f := bucket.Decode(b); len(l) != 0 || f != (api.Fault{}) {
			t.Errorf("Decode of nothing: %v, %v", l, f)
		}
	}
}

func TestNoActs(t *testing.T) { // P15.1, R5: none, whether nil or empty
	bare := api.Bucket{Weight: 1, Watch: 2, WatchGroup: 3}
	made, room := bare, bare
	made.Acts = []api.Action{}
	room.Acts = []api.Action{{Port: 1}, {Kind: 99}}[:0]
	for _, x := range []api.Bucket{bare, made, room} {
		if !bucket.Right(x) || !bucket.Same([]api.Bucket{bare}, []api.Bucket{x}) || !bucket.Same([]api.Bucket{x}, []api.Bucket{bare}) {
			t.Errorf("Right, Same of %v", x)
		}
		taken(t, piece{x, holding(nil)})
	}
}

func TestSpelt(t *testing.T) { // P15.1: told without a second reckoning
	for _, one := range []piece{
		{api.Bucket{}, []byte{0, 16, 0, 0, 0, 0, 0, 0, 0, 0, 0, 0, 0, 0, 0, 0}},
		{api.Bucket{Weight: 0x0102}, []byte{0, 16, 1, 2, 0, 0, 0, 0, 0, 0, 0, 0, 0, 0, 0, 0}},
		{api.Bucket{Watch: 0x01020304}, []byte{0, 16, 0, 0, 1, 2, 3, 4, 0, 0, 0, 0, 0, 0, 0, 0}},
		{api.Bucket{WatchGroup: 0x01020304}, []byte{0, 16, 0, 0, 0, 0, 0, 0, 1, 2, 3, 4, 0, 0, 0, 0}},
		{api.Bucket{Weight: 65535, Watch: 0xFFFFFFFF, WatchGroup: 0xFFFFFFFF}, []byte{0, 16, 255, 255, 255, 255, 255, 255, 255, 255, 255, 255, 0, 0, 0, 0}},
		{api.Bucket{Weight: 2, Watch: 3, WatchGroup: 4, Acts: []api.Action{{Kind: 18}, {Kind: 22, Group: 9}}}, []byte{0, 32, 0, 2, 0, 0, 0, 3, 0, 0, 0, 4, 0, 0, 0, 0, 0, 18, 0, 8, 0, 0, 0, 0, 0, 22, 0, 8, 0, 0, 0, 9}},
	} {
		taken(t, one)
		taken(t, one, one)
	}
}

func TestNumbers(t *testing.T) { // P15.1: at their least and their greatest, and between
	halves := []int{0, 1, 255, 256, 0x1234, 32767, 32768, 65534, 65535}
	words := append(slices.Clone(halves), 65536, 0x12345678, 1<<31-1, 1<<31, 0xFFFFFF00, 0xFFFFFFFC, 0xFFFFFFFE, 0xFFFFFFFF)
	for _, weight := range halves {
		for _, watch := range words {
			for _, watchGroup := range words {
				one := of(weight, watch, watchGroup, 0, 1)
				if !bucket.Right(one.x) {
					t.Errorf("Right(%v): false", one.x)
				}
				taken(t, one)
			}
		}
	}
	for _, x := range beyond() {
		if bucket.Right(x) {
			t.Errorf("Right(%s): true", short(x))
		}
	}
}

func TestBothWays(t *testing.T) { // P15.1, P15.2: one, each pair of a few, and up to 100, in this order and no other
	all := some(100)
	for n := range 101 {
		taken(t, all[:n]...)
		if n > 0 {
			taken(t, slices.Repeat(all[n-1:n], 100)...)
		}
	}
	for _, one := range all[:20] {
		for _, two := range all[:20] {
			taken(t, one, two)
		}
	}
	slices.Reverse(all)
	taken(t, all...)
	for n := range 101 {
		taken(t, of(1, 2, 3, n, n))
		taken(t, of(1, 2, 3, n, n), of(4, 5, 6, 0, 1))
	}
}

func TestMoreThan100(t *testing.T) { // P15.1
	for _, n := range []int{101, 102, 127, 128, 200, 256, 300, 1000} {
		l, b := join(some(n)...)
		notTaken(t, l...)
		told(t, b, 6, 4)
		for _, one := range []piece{of(0, 0, 0, 0, 0), of(1, 2, 3, 0, 1)} {
			l, b = join(slices.Repeat([]piece{one}, n)...)
			notTaken(t, l...)
			told(t, b, 6, 4)
		}
	}
	notTaken(t, make([]api.Bucket, 1000000)...)
	// As many as 60000 bytes have room for.
	told(t, bytes.Repeat(holding(nil), 3750), 6, 4)
}

// repeated is a bucket that has one of done's actions so many times.
func repeated(at, n int) piece {
	b := bytes.Repeat(done[at].b, n)
	return piece{api.Bucket{Weight: 7, Acts: slices.Repeat([]api.Action{done[at].a}, n)}, lay(16+len(b), 7, 0, 0, b)}
}

// filled are buckets of so many bytes in all, a multiple of 8.
func filled(many int) []piece {
	const longest = 16 + 100*24
	var all []piece
	for many >= longest+48 {
		all = append(all, repeated(1, 100))
		many -= longest
	}
	left := many - 48
	return append(all, repeated(1, left/24), repeated(0, left%24/8), repeated(0, 0))
}

func TestMostBytes(t *testing.T) { // P15.1: 60000, and more
	for _, many := range []int{59000, 59984, 59992, 60000} {
		all := filled(many)
		if l, b := join(all...); len(b) != many || len(l) > 100 {
			t.Fatalf("%d bytes of %d, %d buckets", len(b), many, len(l))
		}
		taken(t, all...)
	}
	for _, many := range []int{60008, 60016, 60024, 60200, 65528, 65536, 65544, 100000, 200000} {
		l, b := join(filled(many)...)
		if len(b) != many || len(l) > 100 {
			t.Fatalf("%d bytes of %d, %d buckets", len(b), many, len(l))
		}
		notTaken(t, l...)
		told(t, b, 6, 12)
	}
	_, b := join(filled(60000)...)
	for n := 1; n < 20; n++ {
		told(t, append(bytes.Clone(b), make([]byte, n)...), 6, 12)
	}
	// The longest one that may be: 100 of the most actions each have more bytes.
	l, _ := row(1, 1)
	x := api.Bucket{Acts: slices.Repeat(l, 100)}
	notTaken(t, slices.Repeat([]api.Bucket{x}, 100)...)
	notTaken(t, slices.Repeat([]api.Bucket{x}, 25)...)
}

func TestTooManyBytesFirst(t *testing.T) { // P15.1: ahead of all else that is wrong
	for _, one := range faulty {
		told(t, append(holding(one.b), make([]byte, 60001)...), 6, 12)
	}
	bad := holding(faulty[0].b)
	for _, more := range []int{0, 1, 2, 7, 8, 9, 16} { // of 60000 bytes and more
		b := append(bytes.Clone(bad), make([]byte, 60000-len(bad)+more)...)
		if more == 0 {
			told(t, b, 2, 0)
		} else {
			told(t, b, 6, 12)
		}
	}
	told(t, bytes.Repeat(holding(nil), 3751), 6, 12)
	told(t, make([]byte, 1000000), 6, 12)
}

func TestEncodeOfWrong(t *testing.T) { // P15.1: first, in the midst, last, alone
	for _, x := range beyond() {
		notTaken(t, x)
		for _, n := range []int{1, 2, 5, 99, 100} {
			l, _ := join(some(n)...)
			for _, at := range []int{0, n / 2, n} {
				notTaken(t, slices.Insert(slices.Clone(l), at, x)...)
			}
		}
	}
	notTaken(t, beyond()...)
}

func TestCutOff(t *testing.T) { // P15.1: bytes that end within a bucket
	for _, n := range []int{1, 2, 5, 12} {
		l, b := join(some(n)...)
		ends := map[int]int{}
		many := 0
		for k, one := range some(n) {
			ends[many] = k
			many += len(one.b)
		}
		for end := range b {
			k, ok := ends[end]
			if !ok {
				told(t, b[:end:end], 6, 12)
				told(t, b[:end], 6, 12) // what stands in the spare room doesn't count
				continue
			}
			if got, f := bucket.Decode(b[:end]); f.Is || !equal(got, l[:k]) {
				t.Errorf("Decode of %d: %v, %v", end, got, f)
			}
		}
	}
	for n := 1; n < 16; n++ { // noughts, and what would be lengths
		told(t, make([]byte, n), 6, 12)
		told(t, bytes.Repeat([]byte{0, byte(n)}, 8)[:n], 6, 12)
		told(t, append(holding(nil), holding(nil)[:n]...), 6, 12)
	}
}

func TestLengths(t *testing.T) { // P15.1: each that a bucket may say
	l, acts := row(0, 4)
	full := holding(acts)
	// Shorter ones: what is behind is told as the next bucket, whose length is 17, 18, 25 or 0, or an action is cut off.
	behind := map[int][2]int{16: {6, 12}, 24: {6, 12}, 32: {2, 1}, 40: {2, 1}, 48: {6, 12}, 56: {6, 12}, 64: {2, 1}}
	for length := range 65536 {
		for _, ahead := range [][]byte{nil, holding(nil)} {
			b := append(bytes.Clone(ahead), full...)
			b[len(ahead)], b[len(ahead)+1] = byte(length>>8), byte(length)
			if length == len(full) {
				if got, f := bucket.Decode(b); f.Is || !slices.Equal(got[len(got)-1].Acts, l) {
					t.Errorf("length %d: %v, %v", length, got, f)
				}
			} else if fault, ok := behind[length]; ok {
				told(t, b, fault[0], fault[1])
			} else {
				told(t, b, 6, 12)
			}
		}
	}
	// One that says it has the next one, too: that is what is wrong with its actions.
	told(t, append(lay(32, 1, 2, 3, nil), holding(nil)...), 2, 1)
}

func TestNoughts(t *testing.T) { // P15.1: each of the four, each of its bits, whatever stands beside
	for at := 12; at < 16; at++ {
		for bit := range 8 {
			for _, acts := range [][]byte{nil, done[1].b, faulty[0].b, faulty[8].b} {
				b := holding(acts)
				b[at] = 1 << bit
				told(t, b, 6, 12)
				told(t, append(holding(done[0].b), b...), 6, 12)
				told(t, append(bytes.Clone(b), holding(faulty[0].b)...), 6, 12)
				told(t, append(bytes.Clone(b), holding(done[0].b)...), 6, 12)
				told(t, append(bytes.Repeat(holding(nil), 101), b...), 6, 12)
			}
		}
	}
}

func TestFaultsOfActions(t *testing.T) { // P15.1: each, behind others, and ahead of others
	for _, one := range faulty {
		bad := holding(one.b)
		told(t, bad, 2, one.code)
		for _, n := range []int{1, 2, 50, 99, 100} {
			_, b := join(some(n)...)
			told(t, slices.Concat(b, bad), 2, one.code)
			told(t, slices.Concat(bad, b), 2, one.code)
			told(t, slices.Concat(b, bad, b), 2, one.code)
		}
		for _, n := range []int{1, 3, 14} { // behind actions that may be
			_, acts := row(n, n)
			if len(one.b) < 100 {
				told(t, holding(slices.Concat(acts, one.b)), 2, one.code)
			}
		}
	}
	// The most actions that may be, and one more.
	for from := range done {
		_, b := row(from, 100)
		if l, f := bucket.Decode(holding(b)); f.Is || len(l) != 1 || len(l[0].Acts) != 100 {
			t.Errorf("Decode of 100 actions: %v", f)
		}
		_, b = row(from, 101)
		told(t, holding(b), 2, 7)
	}
	// An action that says it goes on beyond its bucket, where more of it would stand.
	b := append(holding([]byte{0, 0, 0, 16, 0, 0, 0, 1}), holding(nil)...)
	told(t, b, 2, 1)
}

func TestFirstOfTwoFaults(t *testing.T) { // P15.1, R1
	bad := [][]byte{lay(8, 1, 2, 3, nil), lay(17, 1, 2, 3, nil), lay(65528, 1, 2, 3, nil), lay(0, 1, 2, 3, nil)}
	for _, one := range faulty {
		for _, head := range bad {
			// Of two buckets, the first one.
			told(t, slices.Concat(holding(one.b), head), 2, one.code)
			told(t, slices.Concat(head, holding(one.b)), 6, 12)
			// Of one bucket, what stands ahead of its actions.
			told(t, slices.Concat(head, one.b), 6, 12)
		}
		told(t, slices.Concat(holding(one.b), []byte{1}), 2, one.code)
		for _, two := range faulty {
			told(t, slices.Concat(holding(one.b), holding(two.b)), 2, one.code)
			told(t, slices.Concat(holding(one.b), holding(done[0].b), holding(two.b)), 2, one.code)
		}
	}
}

func TestFaultsBehindTooMany(t *testing.T) { // P15.1: what is wrong with a bucket is named ahead of (6, 4)
	for _, n := range []int{100, 101, 102, 200, 1000} {
		_, b := join(some(n)...)
		for _, one := range faulty {
			told(t, slices.Concat(b, holding(one.b)), 2, one.code)
			told(t, slices.Concat(b, holding(one.b), holding(nil)), 2, one.code)
		}
		for k := 1; k < 16; k++ {
			told(t, slices.Concat(b, holding(nil)[:k]), 6, 12)
		}
		for _, length := range []int{0, 8, 15, 17, 20, 24, 65528} {
			told(t, slices.Concat(b, lay(length, 1, 2, 3, nil)), 6, 12)
		}
		told(t, slices.Concat(b, holding(nil)), 6, 4)
	}
}

func TestSame(t *testing.T) { // P15.1, R5
	same := func(a, b []api.Bucket, want bool) {
		t.Helper()
		if bucket.Same(a, b) != want || bucket.Same(b, a) != want {
			t.Errorf("Same(%s, %s): not %v", short(a), short(b), want)
		}
	}
	same(nil, nil, true)
	same(nil, []api.Bucket{}, true)
	same(nil, []api.Bucket{{}}, false)
	same([]api.Bucket{{}}, []api.Bucket{{}, {}}, false)
	for _, n := range []int{1, 2, 3, 12, 101} {
		l, _ := join(some(n)...)
		same(l, copied(l), true)
		same(l, l[:n-1], false) // the same but for the length
		same(l, l[1:], false)
		same(l, append(copied(l), api.Bucket{}), false)
		for k := range l {
			if k > 0 { // the same but for the order
				other := copied(l)
				other[k-1], other[k] = other[k], other[k-1]
				same(l, other, false)
			}
			for _, change := range changes() {
				other := copied(l)
				change(&other[k])
				same(l, other, false)
			}
		}
	}
	// What may not be is held together, too.
	wrong := beyond()
	same(wrong, copied(wrong), true)
	turned := copied(wrong)
	slices.Reverse(turned)
	same(wrong, turned, false)
}

// changes are of each thing that a bucket has.
func changes() []func(*api.Bucket) {
	all := []func(*api.Bucket){
		func(x *api.Bucket) { x.Weight++ }, func(x *api.Bucket) { x.Watch++ }, func(x *api.Bucket) { x.WatchGroup++ },
		func(x *api.Bucket) { x.Weight -= 1 << 16 }, func(x *api.Bucket) { x.Watch -= 1 << 32 }, func(x *api.Bucket) { x.WatchGroup += 1 << 32 },
		func(x *api.Bucket) { x.Weight, x.Watch = x.Watch, x.Weight }, func(x *api.Bucket) { x.Watch, x.WatchGroup = x.WatchGroup+1, x.Watch },
		func(x *api.Bucket) { x.Acts = append(x.Acts, api.Action{}) },
		func(x *api.Bucket) { x.Acts = append(x.Acts, api.Action{Kind: 18}) },
	}
	return append(all, func(x *api.Bucket) {
		if len(x.Acts) == 0 {
			x.Acts = []api.Action{{Kind: 18}}
			return
		}
		x.Acts[len(x.Acts)-1].Max++
	})
}

// draws answers numbers below n, the same ones each time.
func draws() func(n int) int {
	next := uint64(1)
	return func(n int) int {
		next = next*6364136223846793005 + 1442695040888963407
		return int(next >> 33 % uint64(n))
	}
}

func TestThereAndBack(t *testing.T) { // P15.2
	draw := draws()
	for range 500 {
		var l []api.Bucket
		for range draw(101) {
			one := of(draw(65536), draw(1<<31)*2+draw(2), draw(1<<31)*2+draw(2), draw(len(done)), draw(8))
			l = append(l, one.x)
		}
		b, e := bucket.Encode(l)
		if got, f := bucket.Decode(b); e != api.OK || f.Is || !bucket.Same(got, l) || !equal(got, l) {
			t.Errorf("Decode of Encode of %s: %s, %v", short(l), short(got), f)
		}
	}
}

func TestBackAndThere(t *testing.T) { // P15.2, P4: of bytes that are nearly right, or are
	draw := draws()
	read, not := 0, 0
	for range 20000 {
		var all []piece
		for range 1 + draw(4) {
			all = append(all, of(draw(65536), draw(1<<31), draw(1<<31), draw(len(done)), draw(3)))
		}
		_, b := join(all...)
		for range draw(3) {
			b[draw(len(b))] ^= 1 << draw(8)
		}
		l, f := bucket.Decode(b)
		if f.Is {
			not++
			continue
		}
		read++
		if got, e := bucket.Encode(l); e != api.OK || !bytes.Equal(got, b) {
			t.Errorf("Encode of Decode of %x: %x, %d", b, got, e)
		}
		for _, x := range l {
			if !bucket.Right(x) {
				t.Errorf("Right(%v), which was read: false", x)
			}
		}
	}
	if read < 3000 || not < 3000 {
		t.Errorf("too few of a kind: %d, %d", read, not)
	}
}

func TestListsStay(t *testing.T) { // R3: what is handed in, and its spare room
	few, _ := join(some(7)...)
	many, _ := join(some(101)...)
	long, _ := join(filled(60008)...)
	for _, l := range [][]api.Bucket{nil, few[:1], few, many, long, beyond(), append(copied(few), beyond()[0])} {
		room := append(copied(l), few[3], api.Bucket{Weight: -1})
		for i := range room { // and the actions' spare room
			room[i].Acts = append(room[i].Acts, done[0].a, api.Action{Kind: 77})[:len(room[i].Acts)]
		}
		was := roomy(room)
		a := room[:len(l)]
		bucket.Encode(a)
		bucket.Same(a, a)
		bucket.Same(a, l)
		for _, x := range a {
			bucket.Right(x)
		}
		if !equal(roomy(room), was) {
			t.Errorf("a list was changed: %s", short(room))
		}
	}
}

// roomy is l with actions of its own, two of the spare room among them.
func roomy(l []api.Bucket) []api.Bucket {
	l = slices.Clone(l)
	for i := range l {
		l[i].Acts = slices.Clone(l[i].Acts[:len(l[i].Acts)+2])
	}
	return l
}

func TestBytesStay(t *testing.T) { // R3: what is handed in, and its spare room
	_, few := join(some(7)...)
	_, many := join(some(101)...)
	_, long := join(filled(60008)...)
	for _, b := range [][]byte{nil, few[:16], few, few[:len(few)-1], slices.Concat(few, holding(faulty[0].b)), many, long} {
		room := slices.Concat(b, holding(done[0].b), holding(nil))
		was := bytes.Clone(room)
		l, f := bucket.Decode(room[:len(b)])
		if !bytes.Equal(room, was) {
			t.Errorf("Decode changed b's memory: %s", short(room))
		}
		clear(room)
		if again, g := bucket.Decode(bytes.Clone(b)); g != f || !equal(again, l) {
			t.Errorf("Decode of the same: %s, %v, and %s, %v", short(l), f, short(again), g)
		}
	}
}

func TestAnswersAreApart(t *testing.T) { // R3, R4
	l, b := join(some(30)...)
	was := copied(l)
	kept, _ := bucket.Encode(l)
	other, _ := bucket.Encode(l)
	other = other[:cap(other)]
	for i := range other {
		other[i] = 0xEE
	}
	if !bytes.Equal(kept, b) || !equal(l, was) {
		t.Errorf("Encode shares its answers: %s", short(kept))
	}
	read, _ := bucket.Decode(b)
	more, _ := bucket.Decode(b)
	for i := range more { // not with another answer, and not one bucket's with another one's
		clear(more[i].Acts[:cap(more[i].Acts)])
		for k := i + 1; k < len(more); k++ {
			if !slices.Equal(more[k].Acts, was[k].Acts) {
				t.Errorf("Decode shares actions of %d and %d", i, k)
			}
		}
	}
	clear(more[:cap(more)])
	if !equal(read, was) {
		t.Errorf("Decode shares its answers: %s", short(read))
	}
}
