package groupmod_test

import (
	"bytes"
	"fmt"
	"math"
	"slices"
	"testing"

	"weirbox/api"
	"weirbox/groupmod"
)

// done are actions with their bytes, told without a second reckoning: of each kind, and of each length.
var done = []struct {
	a api.Action
	b []byte
}{
	{api.Action{Kind: 18}, []byte{0, 18, 0, 8, 0, 0, 0, 0}},
	{api.Action{Kind: 25, Oxm: api.Oxm{Field: api.IPv6Src, Value: api.Wide{Hi: 1, Lo: 2}}}, []byte{0, 25, 0, 24, 0x80, 0, 52, 16, 0, 0, 0, 0, 0, 0, 0, 1, 0, 0, 0, 0, 0, 0, 0, 2}},
	{api.Action{Kind: 17, Ether: 0x8100}, []byte{0, 17, 0, 8, 0x81, 0, 0, 0}},
	{api.Action{Port: 1}, []byte{0, 0, 0, 16, 0, 0, 0, 1, 0, 0, 0, 0, 0, 0, 0, 0}},
	{api.Action{Kind: 22, Group: 0x01020304}, []byte{0, 22, 0, 8, 1, 2, 3, 4}},
	{api.Action{Port: 0xFFFFFFFD, Max: 0x1234}, []byte{0, 0, 0, 16, 0xFF, 0xFF, 0xFF, 0xFD, 0x12, 0x34, 0, 0, 0, 0, 0, 0}},
	{api.Action{Kind: 25, Oxm: api.Oxm{Field: api.EthDst, Value: api.Wide{Lo: 7}}}, []byte{0, 25, 0, 16, 0x80, 0, 6, 6, 0, 0, 0, 0, 0, 7, 0, 0}},
}

// piece is a list of buckets with its bytes.
type piece struct {
	l []api.Bucket
	b []byte
}

// lay is the bytes of a bucket that says it has a length.
func lay(length, weight, watch, watchGroup int, acts []byte) []byte {
	b := slices.Concat(number(length, 2), number(weight, 2), number(watch, 4), number(watchGroup, 4), make([]byte, 4))
	return append(b, acts...)
}

// number is n in so many bytes, the highest first.
func number(n, size int) []byte {
	var b []byte
	for k := size - 1; k >= 0; k-- {
		b = append(b, byte(n>>(8*k)))
	}
	return b
}

// of is n buckets, each of them unlike the next one, with up to four actions each.
func of(n int) piece {
	var all piece
	for i := range n {
		x := api.Bucket{Weight: i, Watch: 0xFFFFFFFF - i, WatchGroup: 3 * i}
		var acts []byte
		for k := range i % 5 {
			one := done[(i+k)%len(done)]
			x.Acts = append(x.Acts, one.a)
			acts = append(acts, one.b...)
		}
		all.l = append(all.l, x)
		all.b = append(all.b, lay(16+len(acts), x.Weight, x.Watch, x.WatchGroup, acts)...)
	}
	return all
}

// long is n buckets of the most actions that there may be, of 24 bytes each.
func long(n int) piece {
	x := api.Bucket{Weight: 65535, Watch: 1, WatchGroup: 2, Acts: slices.Repeat([]api.Action{done[1].a}, 100)}
	b := lay(16+2400, x.Weight, x.Watch, x.WatchGroup, bytes.Repeat(done[1].b, 100))
	return piece{slices.Repeat([]api.Bucket{x}, n), bytes.Repeat(b, n)}
}

// greatest is buckets of just 60000 bytes: 24 of 2416, one of 1992, one of 24.
func greatest() piece {
	all := long(24)
	x := api.Bucket{Acts: slices.Repeat([]api.Action{done[1].a}, 82)}
	all.l = append(all.l, x, api.Bucket{Acts: []api.Action{done[0].a}})
	all.b = slices.Concat(all.b, lay(16+82*24, 0, 0, 0, bytes.Repeat(done[1].b, 82)), lay(24, 0, 0, 0, done[0].b))
	return all
}

// pieces are lists of buckets that may be.
func pieces() []piece {
	all := []piece{{}, long(1), long(24), greatest()}
	for _, n := range []int{1, 2, 3, 4, 5, 12, 99, 100} {
		all = append(all, of(n))
	}
	return all
}

// wrongBuckets are lists that their layer refuses.
func wrongBuckets() [][]api.Bucket {
	all := [][]api.Bucket{of(101).l, make([]api.Bucket, 1000), long(25).l, append(greatest().l, api.Bucket{})}
	for _, x := range []api.Bucket{{Weight: -1}, {Weight: 65536}, {Watch: -1}, {Watch: 1 << 32}, {WatchGroup: -1}, {WatchGroup: 1 << 32}, {Acts: []api.Action{{}}}, {Acts: []api.Action{done[0].a, {Kind: 1}}}, {Acts: make([]api.Action, 101)}} {
		for _, at := range []int{0, 2, 4} {
			all = append(all, slices.Insert(of(4).l, at, x))
		}
		all = append(all, []api.Bucket{x})
	}
	return all
}

// bad are bytes that something refuses, with why.
type bad struct {
	b    []byte
	want api.Fault
}

func fault(kind, code int) api.Fault { return api.Fault{Is: true, Type: kind, Code: code} }

// badBuckets are bytes of buckets that their layer refuses: each code that there is.
func badBuckets() []bad {
	all := []bad{
		{of(101).b, fault(6, 4)},
		{bytes.Repeat(lay(16, 0, 0, 0, nil), 3750), fault(6, 4)},
		{bytes.Repeat(lay(16, 0, 0, 0, nil), 3751), fault(6, 12)},
		{append(greatest().b, lay(16, 0, 0, 0, nil)...), fault(6, 12)},
		{make([]byte, 60001), fault(6, 12)},
		{lay(8, 0, 0, 0, nil), fault(6, 12)},
		{lay(17, 0, 0, 0, nil), fault(6, 12)},
		{lay(24, 0, 0, 0, nil), fault(6, 12)},
		{lay(16, 0, 0, 0, nil)[:15], fault(6, 12)},
		{append(lay(16, 0, 0, 0, nil), 0), fault(6, 12)},
	}
	for at := 12; at < 16; at++ {
		b := lay(16, 1, 2, 3, nil)
		b[at] = 1
		all = append(all, bad{b, fault(6, 12)})
	}
	for _, one := range []bad{
		{[]byte{0, 9, 0, 8, 0, 0, 0, 0}, fault(2, 0)},
		{[]byte{0, 18, 0, 16, 0, 0, 0, 0}, fault(2, 1)},
		{[]byte{0, 0, 0, 16, 0, 0, 0, 0, 0, 0, 0, 0, 0, 0, 0, 0}, fault(2, 4)},
		{[]byte{0, 18, 0, 8, 0, 0, 0, 1}, fault(2, 5)},
		{bytes.Repeat(done[0].b, 101), fault(2, 7)},
		{[]byte{0, 22, 0, 8, 0xFF, 0xFF, 0xFF, 1}, fault(2, 9)},
		{[]byte{0, 25, 0, 16, 0x80, 0, 0, 4, 0, 0, 0, 1, 0, 0, 0, 0}, fault(2, 13)},
		{[]byte{0, 25, 0, 8, 0x80, 0, 6, 6}, fault(2, 14)},
		{[]byte{0, 25, 0, 16, 0x80, 0, 13, 4, 0, 1, 0, 1, 0, 0, 0, 0}, fault(2, 15)},
	} {
		b := lay(16+len(one.b), 1, 2, 3, one.b)
		all = append(all, bad{b, one.want}, bad{append(of(4).b, b...), one.want})
	}
	return all
}

// head is the bytes ahead of the buckets.
func head(command, kind, nought, id int) []byte {
	return slices.Concat(number(command, 2), number(kind, 1), number(nought, 1), number(id, 4))
}

// equal holds changes together without the layer's own Same.
func equal(a, b api.GroupMod) bool {
	return a.Command == b.Command && a.Kind == b.Kind && a.ID == b.ID && slices.EqualFunc(a.Buckets, b.Buckets, func(x, y api.Bucket) bool {
		return x.Weight == y.Weight && x.Watch == y.Watch && x.WatchGroup == y.WatchGroup && slices.Equal(x.Acts, y.Acts)
	})
}

// copied is g with lists of its own.
func copied(g api.GroupMod) api.GroupMod {
	g.Buckets = slices.Clone(g.Buckets)
	for i := range g.Buckets {
		g.Buckets[i].Acts = slices.Clone(g.Buckets[i].Acts)
	}
	return g
}

// short is what is told of a change, or of bytes, if a test fails.
func short(x any) string {
	text := fmt.Sprintf("%x", x)
	return text[:min(len(text), 300)]
}

func taken(t *testing.T, g api.GroupMod, want []byte) {
	t.Helper()
	if !groupmod.Right(g) {
		t.Errorf("Right(%s): false", short(g))
	}
	if b, e := groupmod.Encode(g); e != api.OK || !bytes.Equal(b, want) {
		t.Errorf("Encode(%s): %s, %d, want %s", short(g), short(b), e, short(want))
	}
	if got, x := groupmod.Decode(want); x != (api.Fault{}) || !equal(got, g) || !groupmod.Same(got, g) {
		t.Errorf("Decode(%s): %s, %v, want %s", short(want), short(got), x, short(g))
	}
}

func notTaken(t *testing.T, g api.GroupMod) {
	t.Helper()
	if groupmod.Right(g) {
		t.Errorf("Right(%s): true", short(g))
	}
	if b, e := groupmod.Encode(g); e != api.ErrArg || len(b) != 0 {
		t.Errorf("Encode(%s): %s, %d", short(g), short(b), e)
	}
}

func told(t *testing.T, b []byte, want api.Fault) {
	t.Helper()
	if g, x := groupmod.Decode(b); x != want || !equal(g, api.GroupMod{}) {
		t.Errorf("Decode(%s): %s, %v, want %v", short(b), short(g), x, want)
	}
}

// ids are those that may be.
func ids() []int {
	return []int{0, 1, 255, 256, 65535, 65536, 0x01020304, 1<<31 - 1, 1 << 31, api.GroupMax, api.GroupMax + 1, api.GroupAll, api.GroupAny - 1, api.GroupAny}
}

// beyond are IDs that may not be.
func beyond() []int {
	return []int{math.MinInt, -1 << 32, -65536, -2, -1, 1 << 32, 1<<32 + 1, 1 << 40, math.MaxInt}
}

func TestSpelt(t *testing.T) { // P18.1: told without a second reckoning, and api's numbers by name
	for _, one := range []struct {
		g api.GroupMod
		b []byte
	}{
		{api.GroupMod{}, []byte{0, 0, 0, 0, 0, 0, 0, 0}},
		{api.GroupMod{Command: api.GroupAdd, Kind: api.KindAll, ID: 0x01020304}, []byte{0, 0, 0, 0, 1, 2, 3, 4}},
		{api.GroupMod{Command: api.GroupModify, Kind: api.KindSelect, ID: 1}, []byte{0, 1, 1, 0, 0, 0, 0, 1}},
		{api.GroupMod{Command: api.GroupDelete, Kind: api.KindIndirect, ID: api.GroupAll}, []byte{0, 2, 2, 0, 0xFF, 0xFF, 0xFF, 0xFC}},
		{api.GroupMod{Command: api.GroupDelete, Kind: api.KindFast, ID: api.GroupAny}, []byte{0, 2, 3, 0, 0xFF, 0xFF, 0xFF, 0xFF}},
		{api.GroupMod{Command: api.GroupAdd, Kind: api.KindFast, ID: 7, Buckets: []api.Bucket{{Watch: 3, WatchGroup: api.GroupAny, Acts: []api.Action{{Kind: api.ActPop}}}, {Weight: 1}}},
			[]byte{0, 0, 3, 0, 0, 0, 0, 7, 0, 24, 0, 0, 0, 0, 0, 3, 255, 255, 255, 255, 0, 0, 0, 0, 0, 18, 0, 8, 0, 0, 0, 0, 0, 16, 0, 1, 0, 0, 0, 0, 0, 0, 0, 0, 0, 0, 0, 0}},
	} {
		taken(t, one.g, one.b)
	}
}

func TestBothWays(t *testing.T) { // P18.1, P18.2: each Command, Kind and list, at each ID's least and greatest
	few := []piece{{}, of(1), of(5), of(12)}
	for command := range 3 {
		for kind := range 4 {
			for _, id := range ids() {
				for _, one := range few {
					taken(t, api.GroupMod{Command: command, Kind: kind, ID: id, Buckets: one.l}, append(head(command, kind, 0, id), one.b...))
				}
			}
			for _, one := range pieces() {
				taken(t, api.GroupMod{Command: command, Kind: kind, ID: 7, Buckets: one.l}, append(head(command, kind, 0, 7), one.b...))
			}
		}
	}
}

func TestIDs(t *testing.T) { // P18.1: each byte of it, and beyond
	for i := range 32 {
		taken(t, api.GroupMod{Command: 1, Kind: 1, ID: 1 << i}, head(1, 1, 0, 1<<i))
	}
	for command := range 3 {
		for _, id := range beyond() {
			notTaken(t, api.GroupMod{Command: command, ID: id})
			notTaken(t, api.GroupMod{Command: command, Kind: 3, ID: id, Buckets: of(3).l})
		}
	}
}

func TestCommandsAndKinds(t *testing.T) { // P18.1: one beyond each, and further
	for _, n := range []int{math.MinInt, -1 << 32, -65536, -256, -3, -2, -1, 3, 4, 5, 255, 256, 257, 258, 259, 65535, 65536, 65538, 1 << 32, 1<<32 + 1, math.MaxInt} {
		for _, one := range []piece{{}, of(4)} {
			notTaken(t, api.GroupMod{Command: n, Buckets: one.l})
			notTaken(t, api.GroupMod{Command: n, Kind: n, ID: 5, Buckets: one.l})
			if n != 3 {
				notTaken(t, api.GroupMod{Kind: n, Buckets: one.l})
			}
		}
	}
	for _, one := range append(pieces(), piece{nil, lay(8, 0, 0, 0, nil)}) {
		for command := range 65536 {
			if command < 3 || len(one.b) > 300 && command > 300 {
				continue
			}
			told(t, append(head(command, command%256, 0, command), one.b...), fault(6, 11))
		}
		for kind := 4; kind < 256; kind++ {
			for command := range 3 {
				told(t, append(head(command, kind, 0, kind), one.b...), fault(6, 10))
			}
		}
	}
}

func TestBucketsRefused(t *testing.T) { // P18.1: both ways, whatever the Command
	for command := range 3 {
		for kind := range 4 {
			for _, l := range wrongBuckets() {
				notTaken(t, api.GroupMod{Command: command, Kind: kind, ID: 1, Buckets: l})
			}
			for _, one := range badBuckets() {
				told(t, append(head(command, kind, 0, 1), one.b...), one.want)
			}
		}
	}
	// No more is asked of them than their layer does: not that a group could have them.
	for kind := range 4 {
		x := api.Bucket{Weight: 9, Watch: 7, WatchGroup: 8, Acts: []api.Action{{Kind: 22, Group: 1}}}
		b := lay(24, 9, 7, 8, []byte{0, 22, 0, 8, 0, 0, 0, 1})
		taken(t, api.GroupMod{Kind: kind, ID: 1, Buckets: slices.Repeat([]api.Bucket{x}, 100)}, append(head(0, kind, 0, 1), bytes.Repeat(b, 100)...))
	}
}

func TestShort(t *testing.T) { // P18.1: fewer than 8 bytes, 8, and more
	told(t, nil, fault(1, 6))
	for n := range 8 {
		told(t, make([]byte, n), fault(1, 6))
		told(t, bytes.Repeat([]byte{255}, n), fault(1, 6))
		for command := range 4 {
			told(t, head(command, command, 0, 1)[:n], fault(1, 6)) // what stands in the spare room doesn't count
			told(t, head(command, command, 0, 1)[:n:n], fault(1, 6))
		}
	}
	for _, one := range pieces() {
		b := append(head(1, 2, 0, 0xFFFFFFFF), one.b...)
		if len(b) > 10000 {
			continue
		}
		ends := map[int]int{8: 0}
		end := 8
		for k := range one.l {
			end += int(b[end])<<8 + int(b[end+1])
			ends[end] = k + 1
		}
		for n := 8; n <= len(b); n++ {
			k, ok := ends[n]
			if !ok {
				told(t, b[:n], fault(6, 12))
				continue
			}
			want := api.GroupMod{Command: 1, Kind: 2, ID: 0xFFFFFFFF, Buckets: one.l[:k]}
			if got, x := groupmod.Decode(b[:n]); x.Is || !equal(got, want) {
				t.Errorf("Decode of %d bytes: %s, %v", n, short(got), x)
			}
		}
		for n := 1; n < 16; n++ { // and behind it
			told(t, append(slices.Clone(b), make([]byte, n)...), fault(6, 12))
		}
	}
}

func TestNought(t *testing.T) { // P18.1: each of its bits, whatever stands beside
	for bit := range 8 {
		for _, command := range []int{0, 1, 2, 3, 65535} {
			for _, kind := range []int{0, 3, 4, 255} {
				for _, one := range pieces() {
					told(t, append(head(command, kind, 1<<bit, 9), one.b...), fault(1, 6))
				}
			}
		}
	}
}

func TestFirstOfTwoFaults(t *testing.T) { // P18.1, R1: (1, 6), (6, 11), (6, 10), the buckets'
	for _, one := range append(badBuckets(), bad{}) {
		for _, nought := range []int{0, 1, 128, 255} {
			for _, command := range []int{0, 2, 3, 256, 65535} {
				for _, kind := range []int{0, 3, 4, 255} {
					want := one.want
					switch {
					case nought != 0:
						want = fault(1, 6)
					case command > 2:
						want = fault(6, 11)
					case kind > 3:
						want = fault(6, 10)
					}
					if want.Is {
						told(t, append(head(command, kind, nought, 1), one.b...), want)
					}
				}
			}
		}
	}
}

// changes are of each thing that a change has.
func changes() []func(*api.GroupMod) {
	all := []func(*api.GroupMod){
		func(g *api.GroupMod) { g.Command, g.Kind = g.Kind+1, g.Command },
		func(g *api.GroupMod) { g.Kind, g.ID = g.ID+1, g.Kind },
		func(g *api.GroupMod) { g.Command, g.ID = g.ID+1, g.Command },
		func(g *api.GroupMod) { g.Command++; g.Kind-- },
		func(g *api.GroupMod) { g.Kind++; g.ID-- },
		func(g *api.GroupMod) { g.Command++; g.ID-- },
		func(g *api.GroupMod) { g.Buckets = append(g.Buckets, api.Bucket{}) },
		func(g *api.GroupMod) { g.Buckets = append([]api.Bucket{{Weight: 77}}, g.Buckets...) },
	}
	for i := range 64 {
		all = append(all, func(g *api.GroupMod) { g.Command ^= 1 << i }, func(g *api.GroupMod) { g.Kind ^= 1 << i }, func(g *api.GroupMod) { g.ID ^= 1 << i })
	}
	return all
}

// changesOf are of each of g's buckets, and of their order, which no two next to one another may be the same for.
func changesOf(g api.GroupMod) []func(*api.GroupMod) {
	var all []func(*api.GroupMod)
	for k := range g.Buckets {
		all = append(all, func(g *api.GroupMod) { g.Buckets[k].Weight++ }, func(g *api.GroupMod) { g.Buckets[k].Watch-- }, func(g *api.GroupMod) { g.Buckets[k].WatchGroup++ },
			func(g *api.GroupMod) { g.Buckets[k].Acts = append(g.Buckets[k].Acts, api.Action{}) }, func(g *api.GroupMod) { g.Buckets = slices.Delete(g.Buckets, k, k+1) })
		for a := range g.Buckets[k].Acts {
			all = append(all, func(g *api.GroupMod) { g.Buckets[k].Acts[a].Max++ })
		}
		if k > 0 {
			all = append(all, func(g *api.GroupMod) { g.Buckets[k-1], g.Buckets[k] = g.Buckets[k], g.Buckets[k-1] })
		}
	}
	return all
}

func TestSame(t *testing.T) { // P18.1, R5
	same := func(a, b api.GroupMod, want bool) {
		t.Helper()
		if groupmod.Same(a, b) != want || groupmod.Same(b, a) != want {
			t.Errorf("Same(%s, %s): not %v", short(a), short(b), want)
		}
	}
	for _, n := range []int{0, 1, 2, 5, 12, 101} {
		for _, g := range []api.GroupMod{{}, {Command: 1, Kind: 2, ID: 3}, {Command: -1, Kind: 99, ID: math.MaxInt}, {Command: math.MinInt, Kind: -7, ID: -1}} {
			g.Buckets = of(n).l
			same(g, copied(g), true)
			for _, change := range append(changes(), changesOf(g)...) {
				other := copied(g)
				change(&other)
				same(g, other, false)
			}
		}
	}
	for i, l := range wrongBuckets() { // what may not be is held together, too
		for k, m := range wrongBuckets() {
			same(api.GroupMod{Buckets: l}, api.GroupMod{Buckets: m}, i == k)
		}
	}
	same(api.GroupMod{}, api.GroupMod{Buckets: []api.Bucket{}}, true)
	same(api.GroupMod{Buckets: []api.Bucket{{}}}, api.GroupMod{Buckets: []api.Bucket{{Acts: []api.Action{}}}}, true)
	taken(t, api.GroupMod{Buckets: []api.Bucket{}}, make([]byte, 8))
	taken(t, api.GroupMod{Buckets: []api.Bucket{{Acts: []api.Action{}}}}, append(make([]byte, 8), lay(16, 0, 0, 0, nil)...))
}

// draws answers numbers below n, the same ones each time.
func draws() func(n int) int {
	next := uint64(1)
	return func(n int) int {
		next = next*6364136223846793005 + 1442695040888963407
		return int(next >> 33 % uint64(n))
	}
}

func TestThereAndBack(t *testing.T) { // P18.2
	draw := draws()
	for range 1000 {
		g := api.GroupMod{Command: draw(3), Kind: draw(4), ID: draw(1<<31)*2 + draw(2), Buckets: of(draw(20)).l}
		b, e := groupmod.Encode(g)
		if got, x := groupmod.Decode(b); e != api.OK || x.Is || !groupmod.Same(got, g) || !equal(got, g) {
			t.Errorf("Decode of Encode of %s: %s, %v", short(g), short(got), x)
		}
	}
}

func TestBackAndThere(t *testing.T) { // P18.2, P4: of bytes that are nearly right, or are
	draw := draws()
	read, not := 0, 0
	for range 30000 {
		b := append(head(draw(3), draw(4), 0, draw(1<<31)), of(draw(5)).b...)
		for range draw(3) {
			b[draw(len(b))] ^= 1 << draw(8)
		}
		g, x := groupmod.Decode(b)
		if x.Is {
			not++
			continue
		}
		read++
		if got, e := groupmod.Encode(g); e != api.OK || !bytes.Equal(got, b) || !groupmod.Right(g) {
			t.Errorf("Encode of Decode of %s: %s, %d", short(b), short(got), e)
		}
	}
	if read < 3000 || not < 3000 {
		t.Errorf("too few of a kind: %d, %d", read, not)
	}
}

// roomy is g with lists that have spare room, and what stands in it.
func roomy(g api.GroupMod) api.GroupMod {
	g = copied(g)
	for i := range g.Buckets {
		n := len(g.Buckets[i].Acts)
		g.Buckets[i].Acts = append(g.Buckets[i].Acts, done[0].a, api.Action{Kind: 77})[:n]
	}
	g.Buckets = append(g.Buckets, api.Bucket{Weight: 7}, api.Bucket{Weight: -1})[:len(g.Buckets)]
	return g
}

// whole is a copy of g with two of each list's spare room.
func whole(g api.GroupMod) api.GroupMod {
	l := slices.Clone(g.Buckets[:len(g.Buckets)+2])
	for i := range g.Buckets {
		l[i].Acts = l[i].Acts[:len(l[i].Acts)+2]
	}
	g.Buckets = l
	return copied(g)
}

func TestListsStay(t *testing.T) { // R3: what is handed in, and its spare room
	lists := wrongBuckets()
	for _, one := range pieces() {
		lists = append(lists, one.l)
	}
	for _, l := range lists {
		for _, command := range []int{1, 3} {
			g := api.GroupMod{Command: command, Kind: 1, ID: 2, Buckets: l}
			a, b := roomy(g), roomy(g)
			was := whole(a)
			groupmod.Right(a)
			groupmod.Same(a, b)
			groupmod.Same(b, a)
			kept, e := groupmod.Encode(a)
			if !equal(whole(a), was) || !equal(whole(b), was) {
				t.Errorf("a change was changed: %s", short(a))
			}
			for _, x := range a.Buckets {
				clear(x.Acts[:cap(x.Acts)])
			}
			clear(a.Buckets[:cap(a.Buckets)])
			if again, f := groupmod.Encode(b); f != e || !bytes.Equal(again, kept) {
				t.Errorf("Encode of the same: %s and %s", short(kept), short(again))
			}
		}
	}
}

func TestBytesStay(t *testing.T) { // R3: what is handed in, and its spare room
	all := [][]byte{nil, make([]byte, 7), head(3, 0, 0, 1), head(0, 4, 0, 1), head(0, 0, 1, 1)}
	for _, one := range badBuckets() {
		all = append(all, append(head(0, 0, 0, 1), one.b...))
	}
	for _, one := range pieces() {
		all = append(all, append(head(2, 3, 0, 4), one.b...))
	}
	for _, b := range all {
		room := slices.Concat(b, of(5).b)
		was := slices.Clone(room)
		g, x := groupmod.Decode(room[:len(b)])
		if !bytes.Equal(room, was) {
			t.Errorf("Decode changed b's memory: %s", short(room))
		}
		clear(room)
		if again, y := groupmod.Decode(slices.Clone(b)); y != x || !equal(again, g) {
			t.Errorf("Decode of the same: %s, %v, and %s, %v", short(g), x, short(again), y)
		}
	}
}

func TestAnswersAreApart(t *testing.T) { // R3, R4
	for _, one := range pieces() {
		g := api.GroupMod{Command: 1, Kind: 3, ID: 5, Buckets: one.l}
		b := append(head(1, 3, 0, 5), one.b...)
		kept, _ := groupmod.Encode(g)
		other, _ := groupmod.Encode(g)
		other = other[:cap(other)]
		for i := range other {
			other[i] = 0xEE
		}
		if !bytes.Equal(kept, b) {
			t.Errorf("Encode shares its answers: %s", short(kept))
		}
		read, _ := groupmod.Decode(b)
		more, _ := groupmod.Decode(b)
		for i := range more.Buckets { // not with another answer, and not one bucket's with another one's
			clear(more.Buckets[i].Acts[:cap(more.Buckets[i].Acts)])
			for k := i + 1; k < len(more.Buckets); k++ {
				if !slices.Equal(more.Buckets[k].Acts, g.Buckets[k].Acts) {
					t.Errorf("Decode shares actions of %d and %d", i, k)
				}
			}
		}
		clear(more.Buckets[:cap(more.Buckets)])
		if !equal(read, g) {
			t.Errorf("Decode shares its answers: %s", short(read))
		}
	}
}
