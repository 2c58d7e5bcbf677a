package pick_test

import (
	"iter"
	"math"
	"slices"
	"testing"

	"weirbox/api"
	"weirbox/pick"
)

// The commands' numbers, written out anew: what the tests hold the answers against hangs on no layer.
const (
	add = iota
	modify
	modifyStrict
	del
	delStrict
)

const (
	anyPort  = 0xFFFFFFFF
	anyGroup = 0xFFFFFFFF
)

// noCommands are numbers that no Command has.
var noCommands = []int{math.MinInt, -1 << 32, -256, -4, -1, 5, 6, 255, 256, 259, 65539, 1 << 32, 1<<32 + 3, math.MaxInt}

// bitsOf are those of the fields that the tests' flows ask for.
var bitsOf = map[int]uint64{api.InPort: 1<<32 - 1, api.Metadata: math.MaxUint64, api.EthDst: 1<<48 - 1, api.EthType: 1<<16 - 1}

// is is the part by which f has the value.
func is(f int, value uint64) api.Oxm { return api.Oxm{Field: f, Value: api.Wide{Lo: value}} }

// masked is the part by which f has the value in the bits of mask.
func masked(f int, value, mask uint64) api.Oxm {
	return api.Oxm{Field: f, Masked: true, Value: api.Wide{Lo: value}, Mask: api.Wide{Lo: mask}}
}

func output(port int) api.Action { return api.Action{Kind: 0, Port: port} }
func toGroup(id int) api.Action  { return api.Action{Kind: 22, Group: id} }

func write(l ...api.Action) api.Inst { return api.Inst{Kind: 3, Acts: l} }
func apply(l ...api.Action) api.Inst { return api.Inst{Kind: 4, Acts: l} }

// matching is the flow of a priority that has just these parts.
func matching(priority int, l ...api.Oxm) api.Flow { return api.Flow{Priority: priority, Match: l} }

// doing is the flow without parts that has just these instructions.
func doing(l ...api.Inst) api.Flow { return api.Flow{Insts: l} }

// change is the change by which f comes about, and others go away, whichever port, group and cookie they have.
func change(command int, f api.Flow) api.FlowMod {
	return api.FlowMod{Command: command, Cookie: f.Cookie, Priority: f.Priority, Match: f.Match, Insts: f.Insts, OutPort: anyPort, OutGroup: anyGroup}
}

// cube is a match's, reckoned anew: by field, what it has in which bits.
type cube map[int][2]uint64

func cubeOf(l []api.Oxm) cube {
	c := cube{}
	for _, o := range l {
		mask := bitsOf[o.Field]
		if o.Masked {
			mask = o.Mask.Lo
		}
		c[o.Field] = [2]uint64{o.Value.Lo & mask, mask}
	}
	return c
}

// within tells whether all that b asks for a asks for, too.
func (a cube) within(b cube) bool {
	for f, t := range b {
		if a[f][1]&t[1] != t[1] || a[f][0]&t[1] != t[0] {
			return false
		}
	}
	return true
}

// sent are the ports, or the groups, that f sends to.
func sent(f api.Flow, kind int, of func(api.Action) int) []int {
	var all []int
	for _, i := range f.Insts {
		for _, a := range i.Acts {
			if (i.Kind == 3 || i.Kind == 4) && a.Kind == kind {
				all = append(all, of(a))
			}
		}
	}
	return all
}

// takes is what Takes must tell, reckoned anew.
func takes(f api.Flow, m api.FlowMod) bool {
	c, d := cubeOf(f.Match), cubeOf(m.Match)
	alike := f.Priority == m.Priority && c.within(d) && d.within(c)
	cookie := (f.Cookie^m.Cookie)&m.CookieMask == 0
	ports, groups := sent(f, 0, func(a api.Action) int { return a.Port }), sent(f, 22, func(a api.Action) int { return a.Group })
	out := (m.OutPort == anyPort || slices.Contains(ports, m.OutPort)) && (m.OutGroup == anyGroup || slices.Contains(groups, m.OutGroup))
	switch m.Command {
	case add:
		return alike
	case modify:
		return c.within(d) && cookie
	case modifyStrict:
		return alike && cookie
	case del:
		return c.within(d) && cookie && out
	case delStrict:
		return alike && cookie && out
	}
	return false
}

func TestCookie(t *testing.T) { // P22.1: the same, and otherwise, in each bit of the mask, and beside it
	for _, c := range []uint64{0, 1, 0x0102030405060708, math.MaxUint64} {
		f := api.Flow{Cookie: c, Priority: 5, Match: []api.Oxm{is(0, 1)}}
		if !pick.Cookie(f, c, 0) || !pick.Cookie(f, c, math.MaxUint64) || !pick.Cookie(f, ^c, 0) || pick.Cookie(f, ^c, math.MaxUint64) {
			t.Errorf("Cookie of %x, without a mask, or with all of it", c)
		}
		for i := range 64 {
			at := uint64(1) << i
			if pick.Cookie(f, c^at, at) || pick.Cookie(f, c^at, math.MaxUint64) || pick.Cookie(f, c^at, at|at<<1) {
				t.Errorf("Cookie of %x, otherwise in bit %d: true", c, i)
			}
			if !pick.Cookie(f, c^at, ^at) || !pick.Cookie(f, c^at, 0) || !pick.Cookie(f, ^c^at, at) || !pick.Cookie(f, c, at) {
				t.Errorf("Cookie of %x, otherwise beside bit %d: false", c, i)
			}
		}
	}
}

func TestOut(t *testing.T) { // P22.1: PortAny and GroupAny alone, together, and neither
	f := doing(write(output(1), toGroup(2), output(3)), api.Inst{Kind: 5, Acts: []api.Action{output(8), toGroup(9)}}, apply(toGroup(4), output(math.MaxInt)))
	ports := map[int]int{anyPort: 1, 1: 1, 3: 1, math.MaxInt: 1, 0: 0, 2: 0, 4: 0, 8: 0, -1: 0, 0xFFFFFFFE: 0, math.MinInt: 0}
	groups := map[int]int{anyGroup: 1, 2: 1, 4: 1, 0: 0, 1: 0, 3: 0, 9: 0, -1: 0, 0xFFFFFFFC: 0, math.MaxInt: 0}
	for port, p := range ports {
		for group, g := range groups {
			if got, want := pick.Out(f, port, group), p*g == 1; got != want {
				t.Errorf("Out(%d, %d): %v", port, group, got)
			}
		}
	}
	for _, none := range []api.Flow{{}, {Insts: []api.Inst{}}, doing(write(), apply(api.Action{Kind: 18})), doing(api.Inst{Kind: 1, Acts: []api.Action{output(1), toGroup(1)}})} {
		if !pick.Out(none, anyPort, anyGroup) || pick.Out(none, 0, anyGroup) || pick.Out(none, 1, anyGroup) || pick.Out(none, anyPort, 0) || pick.Out(none, anyPort, 1) || pick.Out(none, 1, 1) {
			t.Errorf("Out of what sends nothing: %v", none)
		}
	}
	if !pick.Out(doing(apply(output(7))), 7, anyGroup) || pick.Out(doing(apply(output(7))), 7, 7) || !pick.Out(doing(apply(toGroup(7))), anyPort, 7) || pick.Out(doing(apply(toGroup(7))), 7, 7) {
		t.Error("Out of what sends to a port, or to a group, alone")
	}
}

// kin are flows as they stand to the one of a priority 5 that is asked for: what a strict change takes, and what the other one does.
var kin = []struct {
	what         string
	f            api.Flow
	strict, wide bool
}{
	{"the same", matching(5, is(0, 1), masked(1, 4, 6)), true, true},
	{"alike, in another order", matching(5, masked(1, 4, 6), is(0, 1)), true, true},
	{"alike, with bits that do not count", matching(5, is(0, 1|1<<32), masked(1, 5, 6)), true, true},
	{"alike, with a part of which nothing counts", matching(5, is(0, 1), masked(1, 4, 6), masked(2, 9, 0)), true, true},
	{"alike, of a priority below", matching(4, is(0, 1), masked(1, 4, 6)), false, true},
	{"alike, of a priority above", matching(math.MaxInt, is(0, 1), masked(1, 4, 6)), false, true},
	{"within, by a part", matching(5, is(0, 1), masked(1, 4, 6), is(4, 0x800)), false, true},
	{"within, by a bit", matching(5, is(0, 1), masked(1, 4, 7)), false, true},
	{"within, of another priority", matching(-5, is(0, 1), is(1, 5)), false, true},
	{"around, by a part", matching(5, is(0, 1)), false, false},
	{"around, by a bit", matching(5, is(0, 1), masked(1, 4, 4)), false, false},
	{"around, without parts", matching(5), false, false},
	{"overlapping", matching(5, masked(1, 4, 6), is(4, 0x800)), false, false},
	{"overlapping in one part", matching(5, is(0, 1), masked(1, 4, 5)), false, false},
	{"apart", matching(5, is(0, 2), masked(1, 4, 6)), false, false},
	{"apart in a bit", matching(5, is(0, 1), masked(1, 6, 6)), false, false},
}

func TestTakes(t *testing.T) { // P22.2: told without a second reckoning
	g := matching(5, is(0, 1), masked(1, 4, 6))
	for _, k := range kin {
		// What the flow has beside its Priority and its Match counts for nothing.
		k.f.Cookie, k.f.Idle, k.f.Hard, k.f.Flags, k.f.Insts = 7, 8, 9, 10, []api.Inst{apply(output(3))}
		for command, want := range []bool{add: k.strict, modify: k.wide, modifyStrict: k.strict, del: k.wide, delStrict: k.strict} {
			if got := pick.Takes(k.f, change(command, g)); got != want {
				t.Errorf("command %d takes one that is %s: %v", command, k.what, got)
			}
		}
	}
}

func TestNumbersByName(t *testing.T) { // P22.2: api's numbers are those of the tests
	if api.FlowAdd != add || api.FlowModify != modify || api.FlowModifyStrict != modifyStrict || api.FlowDelete != del || api.FlowDeleteStrict != delStrict || api.PortAny != anyPort || api.GroupAny != anyGroup {
		t.Error("other numbers")
	}
}

func TestNoCommands(t *testing.T) { // P22.2: one below the least, one beyond the greatest, and further
	f := doing(write(output(1)))
	for _, command := range noCommands {
		if m := change(command, f); pick.Takes(f, m) || len(pick.List([]api.Flow{f, f}, m)) != 0 || len(walked(pick.Of([]api.Flow{f, f}, m), -1)) != 0 {
			t.Errorf("command %d takes a flow", command)
		}
	}
	for command := add; command <= delStrict; command++ {
		if m := change(command, f); !pick.Takes(f, m) {
			t.Errorf("command %d doesn't take what is the same", command)
		}
	}
}

func TestCookies(t *testing.T) { // P22.2: of all commands but FlowAdd
	f := api.Flow{Cookie: 0x0F}
	for _, c := range []struct {
		cookie, mask uint64
		same         bool
	}{{0x0F, 0, true}, {0xF0, 0, true}, {0x0F, math.MaxUint64, true}, {0x1F, math.MaxUint64, false}, {0x1F, 0x0F, true}, {0x1F, 0x10, false}, {0, 1, false}, {0, 0xF0, true}, {1 << 63, 1 << 63, false}} {
		for command := add; command <= delStrict; command++ {
			m := change(command, f)
			m.Cookie, m.CookieMask = c.cookie, c.mask
			if got, want := pick.Takes(f, m), c.same || command == add; got != want {
				t.Errorf("command %d, cookie %x, mask %x: %v", command, c.cookie, c.mask, got)
			}
		}
	}
}

func TestPortsAndGroups(t *testing.T) { // P22.2: of FlowDelete and FlowDeleteStrict alone
	f := doing(write(output(1)), apply(output(3), toGroup(2)))
	for _, c := range []struct {
		port, group int
		sent        bool
	}{{anyPort, anyGroup, true}, {1, anyGroup, true}, {3, anyGroup, true}, {anyPort, 2, true}, {1, 2, true}, {2, anyGroup, false}, {anyPort, 1, false}, {1, 1, false}, {2, 2, false}, {0, 0, false}, {-1, anyGroup, false}, {anyPort, -1, false}} {
		for command := add; command <= delStrict; command++ {
			m := change(command, f)
			m.OutPort, m.OutGroup = c.port, c.group
			// Where the change sends packets itself counts for nothing.
			m.Insts = []api.Inst{apply(output(2), output(-1), toGroup(1), toGroup(-1))}
			if got, want := pick.Takes(f, m), c.sent || command < del; got != want {
				t.Errorf("command %d, port %d, group %d: %v", command, c.port, c.group, got)
			}
		}
	}
}

func TestNothingElseCounts(t *testing.T) { // P22.2: what a change has beside
	f := api.Flow{Cookie: 1, Priority: 5, Idle: 2, Hard: 3, Flags: 4, Match: []api.Oxm{is(0, 1)}, Insts: []api.Inst{apply(output(6))}}
	for command := add; command <= delStrict; command++ {
		for _, n := range []int{math.MinInt, -1, 1, 3, 255, 65536, math.MaxInt} {
			m := change(command, f)
			m.Table, m.Idle, m.Hard, m.Buffer, m.Flags, m.Insts = n, n, n, n, n, nil
			if !pick.Takes(f, m) {
				t.Errorf("command %d with other numbers %d: false", command, n)
			}
			m.Match = []api.Oxm{is(0, 2)}
			if pick.Takes(f, m) {
				t.Errorf("command %d with numbers %d: true", command, n)
			}
		}
	}
}

// walked are what the walk tells, most of them at most.
func walked(walk iter.Seq[int], most int) []int {
	var all []int
	if most == 0 {
		return nil
	}
	for i := range walk {
		if all = append(all, i); len(all) == most {
			break
		}
	}
	return all
}

func listed(t *testing.T, l []api.Flow, m api.FlowMod, want ...int) {
	t.Helper()
	if got := pick.List(l, m); !slices.Equal(got, want) {
		t.Errorf("List of %d, command %d: %v, want %v", len(l), m.Command, got, want)
	}
	for n := range len(want) + 2 { // and whoever stops has had the first ones, and may begin anew
		walk := pick.Of(l, m)
		for range 2 {
			if got := walked(walk, n); !slices.Equal(got, want[:min(n, len(want))]) {
				t.Errorf("%d of %d, command %d: %v, want %v", n, len(l), m.Command, got, want)
			}
		}
	}
}

func TestLists(t *testing.T) { // P22.2: none, one, and more; the places rise
	g := matching(5, is(0, 1))
	within, apart, below := matching(5, is(0, 1), is(1, 2)), matching(5, is(0, 2)), matching(4, is(0, 1))
	for command := range 5 {
		m := change(command, g)
		listed(t, nil, m)
		listed(t, []api.Flow{}, m)
		listed(t, []api.Flow{g}, m, 0)
		listed(t, []api.Flow{apart}, m)
		listed(t, []api.Flow{apart, g}, m, 1)
		listed(t, []api.Flow{g, apart}, m, 0)
		listed(t, []api.Flow{g, g, g, g, g, g, g, g, g, g}, m, 0, 1, 2, 3, 4, 5, 6, 7, 8, 9)
		listed(t, []api.Flow{apart, apart, apart}, m)
	}
	l := []api.Flow{below, apart, within, g, apart, g, below}
	for _, command := range []int{add, modifyStrict, delStrict} {
		listed(t, l, change(command, g), 3, 5)
	}
	for _, command := range []int{modify, del} {
		listed(t, l, change(command, g), 0, 2, 3, 5, 6)
	}
	for _, command := range noCommands {
		listed(t, l, change(command, g))
	}
	listed(t, l, change(del, api.Flow{}), 0, 1, 2, 3, 4, 5, 6)
	listed(t, l, change(delStrict, api.Flow{}))
}

func TestDeleteByPortAndGroup(t *testing.T) { // P22.2: of a list, told without a second reckoning
	l := []api.Flow{doing(write(output(1))), doing(apply(output(2), output(1))), doing(write(toGroup(1))), doing(apply(output(1), toGroup(1))), {}}
	for _, command := range []int{del, delStrict} {
		m := change(command, api.Flow{})
		listed(t, l, m, 0, 1, 2, 3, 4)
		m.OutPort = 1
		listed(t, l, m, 0, 1, 3)
		m.OutGroup = 1
		listed(t, l, m, 3)
		m.OutPort = anyPort
		listed(t, l, m, 2, 3)
		m.OutGroup = 2
		listed(t, l, m)
	}
	for _, command := range []int{add, modify, modifyStrict} {
		m := change(command, api.Flow{})
		m.OutPort, m.OutGroup = 1, 2
		listed(t, l, m, 0, 1, 2, 3, 4)
	}
}

func TestWalksAreApart(t *testing.T) { // P22.2, R4: one within another
	l := []api.Flow{{}, {Cookie: 1}, {Priority: 1}, {Cookie: 2}}
	walk := pick.Of(l, change(modify, api.Flow{}))
	for i := range walk {
		var inner []int
		for k := range walk {
			inner = append(inner, k)
		}
		if !slices.Equal(inner, []int{0, 1, 2, 3}) {
			t.Errorf("within place %d: %v", i, inner)
		}
	}
}

// draws tells numbers below n, the same ones whenever it is asked anew.
func draws() func(n int) int {
	s := uint64(1)
	return func(n int) int {
		s = s*6364136223846793005 + 1442695040888963407
		return int(s>>33) % n
	}
}

// drawn is a flow of few bits, so that many are alike, or within one another.
func drawn(draw func(n int) int) api.Flow {
	f := api.Flow{Cookie: uint64(draw(4)), Priority: draw(2)}
	for range draw(3) {
		at := []int{api.InPort, api.Metadata, api.EthDst, api.EthType}[draw(4)]
		if draw(3) == 0 {
			f.Match = append(f.Match, is(at, uint64(draw(2))<<(20*draw(3))))
		} else {
			f.Match = append(f.Match, masked(at, uint64(draw(4)), uint64(draw(4))))
		}
	}
	for range draw(3) {
		acts := []api.Action{output(1 + draw(2)), toGroup(1 + draw(2)), {Kind: 18}}[draw(3):]
		f.Insts = append(f.Insts, api.Inst{Kind: 1 + draw(5), Acts: acts})
	}
	return f
}

func TestWhatFollows(t *testing.T) { // P22.3, and all of P22.2 against a reckoning of its own
	draw := draws()
	var took, left [5]int
	for range 6000 {
		l := make([]api.Flow, draw(9))
		for i := range l {
			l[i] = drawn(draw)
		}
		m := change(0, drawn(draw))
		m.CookieMask = uint64(draw(3))
		m.OutPort, m.OutGroup = []int{anyPort, anyPort, 1, 0}[draw(4)], []int{anyGroup, anyGroup, 1, 2}[draw(4)]
		var lists [5][]int
		for command := range lists {
			m.Command = command
			var want []int
			for i, f := range l {
				if takes(f, m) {
					want = append(want, i)
				}
				if pick.Takes(f, m) != takes(f, m) {
					t.Fatalf("Takes(%v, %v): %v", f, m, !takes(f, m))
				}
			}
			lists[command] = pick.List(l, m)
			if !slices.Equal(lists[command], want) || !slices.Equal(walked(pick.Of(l, m), -1), want) {
				t.Fatalf("List(%v, %v): %v, want %v", l, m, lists[command], want)
			}
			took[command] += len(want)
			left[command] += len(l) - len(want)
		}
		if !among(lists[modifyStrict], lists[modify]) || !among(lists[delStrict], lists[del]) {
			t.Errorf("what is strict takes more: %v of %v", lists, l)
		}
		m.CookieMask, m.OutPort, m.OutGroup = 0, anyPort, anyGroup
		m.Command = del
		all := pick.List(l, m)
		if m.Command = modify; !slices.Equal(pick.List(l, m), all) {
			t.Errorf("a delete that asks nothing takes %v of %v", all, l)
		}
	}
	if slices.Min(took[:]) < 300 || slices.Min(left[:]) < 300 {
		t.Errorf("too few of a kind: %v, %v", took, left)
	}
}

// among tells whether all of a are in b.
func among(a, b []int) bool {
	return !slices.ContainsFunc(a, func(n int) bool { return !slices.Contains(b, n) })
}

func equalInsts(a, b []api.Inst) bool {
	return slices.EqualFunc(a, b, func(x, y api.Inst) bool {
		return x.Kind == y.Kind && x.Table == y.Table && x.Value == y.Value && x.Mask == y.Mask && slices.Equal(x.Acts, y.Acts)
	})
}

func equal(a, b api.Flow) bool {
	return a.Cookie == b.Cookie && a.Priority == b.Priority && a.Idle == b.Idle && a.Hard == b.Hard && a.Flags == b.Flags &&
		slices.Equal(a.Match, b.Match) && equalInsts(a.Insts, b.Insts)
}

// roomy is f with lists of its own that have spare room, and what stands in it.
func roomy(f api.Flow) api.Flow {
	f.Match, f.Insts = slices.Clone(f.Match), slices.Clone(f.Insts)
	f.Match = append(f.Match, is(0, 9), is(-1, 3))[:len(f.Match)]
	for i := range f.Insts {
		n := len(f.Insts[i].Acts)
		f.Insts[i].Acts = append(slices.Clone(f.Insts[i].Acts), output(77), toGroup(78))[:n]
	}
	f.Insts = append(f.Insts, apply(output(79)), write(toGroup(80)))[:len(f.Insts)]
	return f
}

// whole is a copy of f with two of each list's spare room.
func whole(f api.Flow) api.Flow {
	f.Match = slices.Clone(f.Match[:len(f.Match)+2])
	n := len(f.Insts)
	f.Insts = slices.Clone(f.Insts[:n+2])
	for i := range f.Insts {
		more := 0
		if i < n {
			more = 2
		}
		f.Insts[i].Acts = slices.Clone(f.Insts[i].Acts[:len(f.Insts[i].Acts)+more])
	}
	return f
}

// wipe overwrites f's lists, and the room behind them.
func wipe(f api.Flow) {
	for _, i := range f.Insts {
		clear(i.Acts[:cap(i.Acts)])
	}
	clear(f.Match[:cap(f.Match)])
	clear(f.Insts[:cap(f.Insts)])
}

// table is n flows, roomy, with one more in its spare room.
func table(draw func(n int) int, n int) []api.Flow {
	var l []api.Flow
	for range n + 1 {
		l = append(l, roomy(drawn(draw)))
	}
	return l[:n]
}

func TestNothingChangedOrKept(t *testing.T) { // R3: what is handed in, and its spare room
	draw := draws()
	for round := range 300 {
		l, g := table(draw, 1+draw(8)), roomy(drawn(draw))
		var was []api.Flow
		for _, f := range l[:len(l)+1] {
			was = append(was, whole(f))
		}
		wasG := whole(g)
		m := change(round%5, g)
		want := pick.List(l, m)
		walk, begun := pick.Of(l, m), pick.Of(l, m)
		next, stop := iter.Pull(begun)
		first, ok := next()
		if ok != (len(want) > 0) || ok && first != want[0] {
			t.Errorf("the first of %v: %d, %v", want, first, ok)
		}
		pick.Takes(l[0], m)
		pick.Cookie(l[0], 1, 2)
		pick.Out(l[0], 1, anyGroup)
		for i, f := range l[:len(l)+1] {
			if !equal(whole(f), was[i]) {
				t.Fatalf("flow %d was changed: %v", i, f)
			}
		}
		if !equal(whole(g), wasG) {
			t.Fatalf("the change was changed: %v", g)
		}
		// What is done to what was handed in is seen by no walk, not by one that has begun, either.
		wipe(g)
		for _, f := range l {
			wipe(f)
		}
		for i := range l[:cap(l)] {
			l[:cap(l)][i] = api.Flow{Priority: -9}
		}
		if got := walked(walk, -1); !slices.Equal(got, want) {
			t.Errorf("a walk hangs on what became of the flows: %v, want %v", got, want)
		}
		for i := 1; i < len(want); i++ {
			if k, ok := next(); !ok || k != want[i] {
				t.Errorf("a walk that has begun hangs on what became of the flows: %d, %v", k, ok)
			}
		}
		if k, ok := next(); ok {
			t.Errorf("one more: %d", k)
		}
		stop()
	}
}

func TestAnswersAreApart(t *testing.T) { // R3, R4: what is done to a list that was answered
	l := []api.Flow{{}, {Cookie: 1}, {Priority: 1}, {Cookie: 2}, {Cookie: 3}}
	m := change(del, api.Flow{})
	walk := pick.Of(l, m)
	kept, other := pick.List(l, m), pick.List(l, m)
	clear(other[:cap(other)])
	if want := []int{0, 1, 2, 3, 4}; !slices.Equal(kept, want) || !slices.Equal(pick.List(l, m), want) || !slices.Equal(walked(walk, -1), want) {
		t.Errorf("List shares its answers: %v", kept)
	}
}
