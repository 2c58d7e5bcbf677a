package flow_test

import (
	"math"
	"slices"
	"testing"

	"weirbox/api"
	"weirbox/flow"
)

// The fields' bits, written out anew: what the tests hold the answers against hangs on no layer.
var bitsOf = [api.Fields]int{32, 64, 48, 48, 16, 13, 3, 6, 2, 8, 32, 32, 16, 16, 16, 16, 8, 8, 16, 32, 32, 128, 128, 20}

var full = api.Wide{Hi: math.MaxUint64, Lo: math.MaxUint64}

// noFields are numbers that no field has.
var noFields = []int{math.MinInt, -1 << 32, -24, -1, 24, 25, 255, 256, 1 << 32, math.MaxInt}

// odd are numbers of all kinds: those of no flow on the wire, too.
var odd = []int{math.MinInt, -1 << 32, -1, 0, 1, 2, 255, 65535, 65536, 0xFFFFFFFF, 1 << 32, math.MaxInt}

func bit(i int) api.Wide {
	if i < 64 {
		return api.Wide{Lo: 1 << i}
	}
	return api.Wide{Hi: 1 << (i - 64)}
}

func low(n int) api.Wide {
	var a api.Wide
	for i := range n {
		a = or(a, bit(i))
	}
	return a
}

func and(a, b api.Wide) api.Wide { return api.Wide{Hi: a.Hi & b.Hi, Lo: a.Lo & b.Lo} }
func or(a, b api.Wide) api.Wide  { return api.Wide{Hi: a.Hi | b.Hi, Lo: a.Lo | b.Lo} }
func xor(a, b api.Wide) api.Wide { return api.Wide{Hi: a.Hi ^ b.Hi, Lo: a.Lo ^ b.Lo} }

// is is the part by which f has the value.
func is(f int, value uint64) api.Oxm { return api.Oxm{Field: f, Value: api.Wide{Lo: value}} }

// masked is the part by which f has the value in the bits of mask.
func masked(f int, value, mask api.Wide) api.Oxm {
	return api.Oxm{Field: f, Masked: true, Value: value, Mask: mask}
}

func output(port int) api.Action { return api.Action{Kind: 0, Port: port} }
func toGroup(id int) api.Action  { return api.Action{Kind: 22, Group: id} }

func write(l ...api.Action) api.Inst { return api.Inst{Kind: 3, Acts: l} }
func apply(l ...api.Action) api.Inst { return api.Inst{Kind: 4, Acts: l} }

// cubeOf is the cube of a match, reckoned anew.
func cubeOf(l []api.Oxm) api.Cube {
	var c api.Cube
	for _, o := range l {
		if o.Field < 0 || o.Field >= api.Fields {
			continue
		}
		mask := low(bitsOf[o.Field])
		if o.Masked {
			mask = o.Mask
		}
		c[o.Field] = api.Tern{Value: and(o.Value, mask), Mask: mask}
	}
	return c
}

func has(c api.Cube, h api.Header) bool {
	for f, t := range c {
		if and(t.Mask, t.Value) != and(t.Mask, h[f]) {
			return false
		}
	}
	return true
}

func meets(a, b api.Cube) bool {
	for f := range a {
		if and(and(a[f].Mask, b[f].Mask), xor(a[f].Value, b[f].Value)) != (api.Wide{}) {
			return false
		}
	}
	return true
}

func within(a, b api.Cube) bool {
	for f, t := range b {
		if and(a[f].Mask, t.Mask) != t.Mask || and(a[f].Value, t.Mask) != and(t.Value, t.Mask) {
			return false
		}
	}
	return true
}

func equalInsts(a, b []api.Inst) bool {
	return slices.EqualFunc(a, b, func(x, y api.Inst) bool {
		return x.Kind == y.Kind && x.Table == y.Table && x.Value == y.Value && x.Mask == y.Mask && slices.Equal(x.Acts, y.Acts)
	})
}

// equal holds flows together without the layer's own Same.
func equal(a, b api.Flow) bool {
	return a.Cookie == b.Cookie && a.Priority == b.Priority && a.Idle == b.Idle && a.Hard == b.Hard && a.Flags == b.Flags &&
		slices.Equal(a.Match, b.Match) && equalInsts(a.Insts, b.Insts)
}

// copied is f with lists of its own.
func copied(f api.Flow) api.Flow {
	f.Match, f.Insts = slices.Clone(f.Match), slices.Clone(f.Insts)
	for i := range f.Insts {
		f.Insts[i].Acts = slices.Clone(f.Insts[i].Acts)
	}
	return f
}

// plain is a flow that has something of all.
func plain() api.Flow {
	return api.Flow{
		Cookie: 0x0102030405060708, Priority: 7, Idle: 8, Hard: 9, Flags: 10,
		Match: []api.Oxm{is(api.InPort, 5), is(api.EthType, 0x800), masked(api.IPv4Src, api.Wide{Lo: 4}, api.Wide{Lo: 6})},
		Insts: []api.Inst{
			write(output(1), api.Action{Kind: 25, Oxm: is(api.EthDst, 3)}),
			apply(api.Action{Kind: 0, Port: 2, Max: 3}, toGroup(4), api.Action{Kind: 17, Ether: 0x8100}),
			{Kind: 2, Value: api.Wide{Lo: 1}, Mask: api.Wide{Lo: 3}},
			{Kind: 1, Table: 2},
		},
	}
}

// modOf is the change that tells f, and something in all that a flow has not.
func modOf(f api.Flow) api.FlowMod {
	return api.FlowMod{
		Cookie: f.Cookie, CookieMask: 21, Table: 22, Command: 23, Idle: f.Idle, Hard: f.Hard, Priority: f.Priority,
		Buffer: 24, OutPort: 25, OutGroup: 26, Flags: f.Flags, Match: f.Match, Insts: f.Insts,
	}
}

func TestOf(t *testing.T) { // P21.1: each field is the change's of that name
	for _, f := range append(changed(plain()), plain(), api.Flow{}) {
		if got := flow.Of(modOf(f)); !equal(got, f) {
			t.Errorf("Of: %v, want %v", got, f)
		}
	}
	for _, n := range odd {
		for _, f := range []api.Flow{{Priority: n}, {Idle: n}, {Hard: n}, {Flags: n}, {Cookie: uint64(n)}} {
			if got := flow.Of(modOf(f)); !equal(got, f) {
				t.Errorf("Of: %v, want %v", got, f)
			}
		}
	}
}

func TestOfSpelt(t *testing.T) { // P21.1: told without a second reckoning; what a flow has not counts for nothing
	m := api.FlowMod{Cookie: 1, CookieMask: 2, Table: 3, Command: 4, Idle: 5, Hard: 6, Priority: 7, Buffer: 8, OutPort: 9, OutGroup: 10, Flags: 11}
	m.Match, m.Insts = []api.Oxm{is(1, 12)}, []api.Inst{apply(output(13))}
	f := flow.Of(m)
	if f.Cookie != 1 || f.Idle != 5 || f.Hard != 6 || f.Priority != 7 || f.Flags != 11 {
		t.Errorf("Of: %v", f)
	}
	if !slices.Equal(f.Match, m.Match) || !equalInsts(f.Insts, m.Insts) {
		t.Errorf("Of: %v", f)
	}
	if f = flow.Of(api.FlowMod{CookieMask: 2, Table: 3, Command: 4, Buffer: 8, OutPort: 9, OutGroup: 10}); !equal(f, api.Flow{}) {
		t.Errorf("Of: %v, want nothing", f)
	}
	if f = flow.Of(api.FlowMod{Match: []api.Oxm{}, Insts: []api.Inst{}}); !equal(f, api.Flow{}) { // R5
		t.Errorf("Of: %v, want nothing", f)
	}
}

func TestCube(t *testing.T) { // P21.1: each field, alone and beside others; bits of Value that do not count are off
	for f := range api.Fields {
		for _, v := range []api.Wide{{}, {Lo: 1}, full, {Hi: 0x0102030405060708, Lo: 0xF1E2D3C4B5A69788}} {
			for _, m := range []api.Wide{{}, {Lo: 1}, full, low(bitsOf[f]), bit(bitsOf[f] - 1), bit(127), {Hi: 0xAA, Lo: 0x5555}} {
				for _, o := range []api.Oxm{{Field: f, Value: v}, {Field: f, Value: v, Mask: m}, masked(f, v, m)} {
					for _, l := range [][]api.Oxm{{o}, {is((f+1)%api.Fields, 3), o}, {o, is((f+5)%api.Fields, 3), is(-1, 2)}} {
						x := plain()
						x.Match = l
						if got, want := flow.Cube(x), cubeOf(l); got != want {
							t.Errorf("Cube of %v: %x, want %x", l, got, want)
						}
					}
				}
			}
		}
	}
}

func TestCubeSpelt(t *testing.T) { // P21.1: told without a second reckoning
	if got := flow.Cube(api.Flow{Priority: 5, Insts: plain().Insts}); got != (api.Cube{}) {
		t.Errorf("Cube without parts: %x", got)
	}
	if got := flow.Cube(api.Flow{Match: []api.Oxm{}}); got != (api.Cube{}) { // R5
		t.Errorf("Cube without parts: %x", got)
	}
	for _, f := range noFields {
		if got := flow.Cube(api.Flow{Match: []api.Oxm{{Field: f, Value: full}, masked(f, full, full)}}); got != (api.Cube{}) {
			t.Errorf("Cube of field %d: %x", f, got)
		}
	}
	beyond := []api.Oxm{{Field: api.VlanVid, Value: full}, masked(api.EthDst, api.Wide{Hi: 1, Lo: 0xFF}, api.Wide{Lo: 0x0F})}
	var want api.Cube
	want[api.VlanVid] = api.Tern{Value: api.Wide{Lo: 0x1FFF}, Mask: api.Wide{Lo: 0x1FFF}}
	want[api.EthDst] = api.Tern{Value: api.Wide{Lo: 0x0F}, Mask: api.Wide{Lo: 0x0F}}
	if got := flow.Cube(api.Flow{Match: beyond}); got != want {
		t.Errorf("Cube of bits beyond: %x", got)
	}
}

func TestCubeOfTwoParts(t *testing.T) { // P21.1: of one field the one behind counts alone
	for f := range api.Fields {
		a, b := is(f, 1), masked(f, api.Wide{Lo: 2}, api.Wide{Lo: 2})
		var first, second api.Cube
		first[f] = api.Tern{Value: api.Wide{Lo: 1}, Mask: low(bitsOf[f])}
		second[f] = api.Tern{Value: api.Wide{Lo: 2}, Mask: api.Wide{Lo: 2}}
		if got := flow.Cube(api.Flow{Match: []api.Oxm{a, b}}); got != second {
			t.Errorf("Cube of field %d: %x", f, got)
		}
		if got := flow.Cube(api.Flow{Match: []api.Oxm{b, a}}); got != first {
			t.Errorf("Cube of field %d: %x", f, got)
		}
		if got := flow.Cube(api.Flow{Match: []api.Oxm{a, is((f+1)%api.Fields, 0), b}})[f]; got != second[f] {
			t.Errorf("Cube of field %d: %x", f, got)
		}
	}
}

// changed are f, each with one thing otherwise.
func changed(f api.Flow) []api.Flow {
	var all []api.Flow
	add := func(change func(*api.Flow)) {
		x := copied(f)
		change(&x)
		all = append(all, x)
	}
	for i := range 64 {
		add(func(x *api.Flow) { x.Cookie ^= 1 << i })
		add(func(x *api.Flow) { x.Priority ^= 1 << i })
		add(func(x *api.Flow) { x.Idle ^= 1 << i })
		add(func(x *api.Flow) { x.Hard ^= 1 << i })
		add(func(x *api.Flow) { x.Flags ^= 1 << i })
	}
	add(func(x *api.Flow) { x.Idle, x.Hard = x.Hard, x.Idle })
	add(func(x *api.Flow) { x.Priority, x.Flags = x.Flags, x.Priority })
	add(func(x *api.Flow) { x.Match = append(x.Match, is(9, 1)) })
	add(func(x *api.Flow) { x.Match = append(x.Match, api.Oxm{}) })
	add(func(x *api.Flow) { x.Insts = append(x.Insts, api.Inst{Kind: 5}) })
	add(func(x *api.Flow) { x.Insts = append(x.Insts, api.Inst{}) })
	for i := range f.Match {
		add(func(x *api.Flow) { x.Match = slices.Delete(x.Match, i, i+1) })
		add(func(x *api.Flow) { x.Match[i].Field++ })
		add(func(x *api.Flow) { x.Match[i].Masked = !x.Match[i].Masked })
		add(func(x *api.Flow) { x.Match[i].Value.Lo ^= 8 })
		add(func(x *api.Flow) { x.Match[i].Value.Hi ^= 8 })
		add(func(x *api.Flow) { x.Match[i].Mask.Lo ^= 8 })
		add(func(x *api.Flow) { x.Match[i].Mask.Hi ^= 8 })
	}
	for i := range f.Insts {
		add(func(x *api.Flow) { x.Insts = slices.Delete(x.Insts, i, i+1) })
		add(func(x *api.Flow) { x.Insts[i].Kind++ })
		add(func(x *api.Flow) { x.Insts[i].Table++ })
		add(func(x *api.Flow) { x.Insts[i].Value.Lo ^= 8 })
		add(func(x *api.Flow) { x.Insts[i].Value.Hi ^= 8 })
		add(func(x *api.Flow) { x.Insts[i].Mask.Lo ^= 8 })
		add(func(x *api.Flow) { x.Insts[i].Mask.Hi ^= 8 })
		add(func(x *api.Flow) { x.Insts[i].Acts = append(x.Insts[i].Acts, api.Action{}) })
		for k := range f.Insts[i].Acts {
			add(func(x *api.Flow) { x.Insts[i].Acts[k].Kind++ })
			add(func(x *api.Flow) { x.Insts[i].Acts[k].Port++ })
			add(func(x *api.Flow) { x.Insts[i].Acts[k].Max++ })
			add(func(x *api.Flow) { x.Insts[i].Acts[k].Group++ })
			add(func(x *api.Flow) { x.Insts[i].Acts[k].Ether++ })
			add(func(x *api.Flow) { x.Insts[i].Acts[k].Oxm.Value.Hi++ })
		}
	}
	return append(all, turned(f)...)
}

// turned are f, each with one of its lists the other way round.
func turned(f api.Flow) []api.Flow {
	a, b, c := copied(f), copied(f), copied(f)
	slices.Reverse(a.Match)
	slices.Reverse(b.Insts)
	slices.Reverse(c.Insts[1].Acts)
	return []api.Flow{a, b, c}
}

func TestSame(t *testing.T) { // P21.1: each field, and the order of each list
	f := plain()
	if !flow.Same(f, copied(f)) || !flow.Same(api.Flow{}, api.Flow{}) {
		t.Error("Same of the same: false")
	}
	all := changed(f)
	for i, x := range all {
		if equal(x, f) {
			t.Fatalf("change %d is none", i)
		}
		if flow.Same(f, x) || flow.Same(x, f) {
			t.Errorf("Same of %v and %v: true", f, x)
		}
		if !flow.Same(x, copied(x)) {
			t.Errorf("Same of %v and itself: false", x)
		}
	}
}

func TestSameOfNothing(t *testing.T) { // R5: no list, and an empty one
	a := api.Flow{Insts: []api.Inst{{Kind: 3}}}
	b := api.Flow{Match: []api.Oxm{}, Insts: []api.Inst{{Kind: 3, Acts: []api.Action{}}}}
	if !flow.Same(a, b) || !flow.Same(b, a) || !flow.Same(api.Flow{}, api.Flow{Match: []api.Oxm{}, Insts: []api.Inst{}}) {
		t.Error("no list and an empty one aren't the same")
	}
	if !flow.Alike(a, b) || !flow.Overlap(a, b) || flow.Cube(a) != flow.Cube(b) {
		t.Error("no list and an empty one aren't alike")
	}
}

func TestAlikeNotSame(t *testing.T) { // P21.2: Priority and Cube alone count
	f := plain()
	all := turned(f)
	for _, change := range []func(*api.Flow){
		func(x *api.Flow) { x.Cookie++ },
		func(x *api.Flow) { x.Idle++ },
		func(x *api.Flow) { x.Hard++ },
		func(x *api.Flow) { x.Flags++ },
		func(x *api.Flow) { x.Insts = nil },
		func(x *api.Flow) { x.Insts[0].Acts = nil },
		func(x *api.Flow) { x.Match[0].Value.Hi = 1 },                         // beyond the field
		func(x *api.Flow) { x.Match[1].Value.Lo |= 1 << 16 },                  // just beyond the field
		func(x *api.Flow) { x.Match[2].Value.Lo |= 1 },                        // beside the mask
		func(x *api.Flow) { x.Match[0].Mask = full },                          // of a part that is not masked
		func(x *api.Flow) { x.Match = append(x.Match, is(-1, 1), is(24, 1)) }, // of fields that are none
		func(x *api.Flow) { x.Match = append(x.Match, masked(2, full, api.Wide{})) },
		func(x *api.Flow) { x.Match = append([]api.Oxm{is(0, 99)}, x.Match...) }, // one ahead of another one of its field
	} {
		x := copied(f)
		change(&x)
		all = append(all, x)
	}
	for _, x := range all {
		if flow.Same(f, x) || !flow.Alike(f, x) || !flow.Alike(x, f) {
			t.Errorf("%v and %v: Same, or not Alike", f, x)
		}
		if !flow.Overlap(f, x) || !flow.Overlap(x, f) || !flow.Covers(flow.Cube(f), x) || !flow.Covers(flow.Cube(x), f) {
			t.Errorf("%v and %v: not both over the other one", f, x)
		}
	}
}

func TestPriorities(t *testing.T) { // P21.2: of two priorities, whichever: neither Alike nor Overlap
	for _, p := range odd {
		for _, q := range odd {
			a, b := plain(), plain()
			a.Priority, b.Priority = p, q
			if flow.Alike(a, b) != (p == q) || flow.Overlap(a, b) != (p == q) {
				t.Errorf("Priority %d and %d", p, q)
			}
			if !flow.Covers(flow.Cube(a), b) { // it asks no Priority
				t.Errorf("Priority %d and %d: not Covers", p, q)
			}
		}
	}
}

// single is the match of which all bits count: it has just one header.
func single() []api.Oxm {
	var l []api.Oxm
	for f := range api.Fields {
		l = append(l, masked(f, api.Wide{Hi: 0x0102030405060708 * uint64(f+1), Lo: 0xF1E2D3C4B5A69788 + uint64(f)}, full))
	}
	return l
}

// ends are places of bits at the ends of both halves, and at a field's.
func ends(f int) []int { return []int{0, bitsOf[f] - 1, 63, 64, 127} }

func TestOneHeader(t *testing.T) { // P21.2: two that meet in one header, and in none, for each field's sake alone
	one := single()
	even, uneven := slices.Clone(one), slices.Clone(one)
	for f := range one { // together they have the one header alone
		even[f].Mask = api.Wide{Hi: 0xAAAAAAAAAAAAAAAA, Lo: 0xAAAAAAAAAAAAAAAA}
		uneven[f].Mask = xor(full, even[f].Mask)
	}
	half, rest := api.Flow{Match: even}, api.Flow{Match: uneven}
	if !flow.Overlap(half, rest) || !flow.Overlap(rest, half) || flow.Alike(half, rest) {
		t.Error("two that meet in one header")
	}
	if flow.Covers(flow.Cube(half), rest) || !flow.Covers(flow.Cube(half), api.Flow{Match: one}) {
		t.Error("one that is within both")
	}
	for f := range api.Fields {
		for _, i := range ends(f) {
			other := slices.Clone(one)
			other[f].Value = xor(other[f].Value, bit(i))
			a, b := api.Flow{Match: one}, api.Flow{Match: other}
			if !flow.Overlap(a, a) || flow.Overlap(a, b) || flow.Overlap(b, a) || flow.Alike(a, b) {
				t.Errorf("two that are otherwise in bit %d of field %d", i, f)
			}
			// The other one meets just one of the halves.
			if flow.Overlap(half, b) == flow.Overlap(rest, b) {
				t.Errorf("halves, and bit %d of field %d", i, f)
			}
		}
	}
}

func TestCovers(t *testing.T) { // P21.2: a cube that has all headers of a flow, all but one, and just these
	for f := range api.Fields {
		for _, i := range ends(f) {
			two := single()
			two[f].Mask = xor(full, bit(i))
			x := api.Flow{Priority: 3, Match: two}
			c := flow.Cube(x)
			less, other, more := c, c, c
			less[f].Mask = full // of x's two headers just one
			other[f].Mask = full
			other[f].Value = or(other[f].Value, bit(i))
			k := (f + 1) % api.Fields
			more[k].Mask = xor(more[k].Mask, bit(i)) // with bits of Value that do not count
			if !flow.Covers(c, x) || !flow.Covers(more, x) || !flow.Covers(api.Cube{}, x) {
				t.Errorf("Covers of all headers, bit %d of field %d: false", i, f)
			}
			if flow.Covers(less, x) || flow.Covers(other, x) {
				t.Errorf("Covers of all headers but one, bit %d of field %d: true", i, f)
			}
			apart := more
			apart[f].Value = xor(apart[f].Value, bit((i+1)%128))
			if flow.Covers(apart, x) {
				t.Errorf("Covers of none of the headers, bit %d of field %d: true", i, f)
			}
		}
	}
	if !flow.Covers(api.Cube{}, api.Flow{}) || flow.Covers(cubeOf([]api.Oxm{is(0, 0)}), api.Flow{}) {
		t.Error("Covers of a flow without parts")
	}
}

// spots are the bits that small matches ask for: which part of theirs, and where.
var spots = []struct{ part, at int }{{0, 0}, {0, 63}, {1, 64}, {1, 127}}

// small are all matches that ask for some of the spots, each to be off, or on.
func small() [][]api.Oxm {
	all := [][]api.Oxm{{masked(api.Metadata, api.Wide{}, api.Wide{}), masked(api.IPv6Dst, api.Wide{}, api.Wide{})}}
	for _, s := range spots {
		var more [][]api.Oxm
		for _, l := range all {
			off, on := slices.Clone(l), slices.Clone(l)
			off[s.part].Mask = or(off[s.part].Mask, bit(s.at))
			on[s.part].Mask = off[s.part].Mask
			on[s.part].Value = or(on[s.part].Value, bit(s.at))
			more = append(more, l, off, on)
		}
		all = more
	}
	return all
}

// smallHeaders are those that are otherwise in the spots: one of each kind.
func smallHeaders() []api.Header {
	all := []api.Header{{}}
	for _, s := range spots {
		f := []int{api.Metadata, api.IPv6Dst}[s.part]
		for _, h := range all {
			h[f] = or(h[f], bit(s.at))
			all = append(all, h)
		}
	}
	return all
}

func TestSmall(t *testing.T) { // P21.2, P21.3: held against each header, one by one
	all := small()
	had := make([]uint, len(all)) // which headers each has, a bit each
	for i, l := range all {
		for k, h := range smallHeaders() {
			if has(cubeOf(l), h) {
				had[i] |= 1 << k
			}
		}
	}
	for i := range all {
		for k := range all {
			a, b := api.Flow{Priority: 4, Match: all[i]}, api.Flow{Priority: 4, Match: all[k]}
			if got, want := flow.Overlap(a, b), had[i]&had[k] != 0; got != want {
				t.Errorf("Overlap(%v, %v): %v", all[i], all[k], got)
			}
			if got, want := flow.Alike(a, b), had[i] == had[k]; got != want {
				t.Errorf("Alike(%v, %v): %v", all[i], all[k], got)
			}
			if got, want := flow.Covers(flow.Cube(a), b), had[i]&had[k] == had[k]; got != want {
				t.Errorf("Covers(%v, %v): %v", all[i], all[k], got)
			}
		}
	}
}

// draws tells numbers below n, the same ones whenever it is asked anew.
func draws() func(n int) int {
	s := uint64(1)
	return func(n int) int {
		s = s*6364136223846793005 + 1442695040888963407
		return int(s>>33) % n
	}
}

// drawn is a flow of few bits in few fields, so that many are alike, and many meet.
func drawn(draw func(n int) int) api.Flow {
	f := api.Flow{Cookie: uint64(draw(3)), Priority: draw(2), Flags: draw(3)}
	for range draw(4) {
		at := []int{0, 1, 5, 21, 23, -1}[draw(6)]
		if draw(2) == 0 {
			f.Match = append(f.Match, is(at, uint64(draw(2))<<draw(40)))
		} else {
			i := []int{0, 40, 64, 127}[draw(4)]
			f.Match = append(f.Match, masked(at, []api.Wide{{}, full}[draw(2)], bit(i)))
		}
	}
	return f
}

func TestWhatFollows(t *testing.T) { // P21.3, and all of P21.2 against a reckoning of its own
	draw := draws()
	alike, over, apart := 0, 0, 0
	for range 20000 {
		a, b := drawn(draw), drawn(draw)
		c, d := cubeOf(a.Match), cubeOf(b.Match)
		one := a.Priority == b.Priority
		if flow.Alike(a, b) != (one && c == d) || flow.Overlap(a, b) != (one && meets(c, d)) || flow.Covers(c, b) != within(d, c) {
			t.Fatalf("%v and %v: %v, %v, %v", a, b, flow.Alike(a, b), flow.Overlap(a, b), flow.Covers(c, b))
		}
		if flow.Alike(a, b) {
			alike++
			if !flow.Overlap(a, b) || !flow.Covers(flow.Cube(a), b) || !flow.Covers(flow.Cube(b), a) {
				t.Errorf("Alike, and no more: %v and %v", a, b)
			}
		} else if flow.Overlap(a, b) {
			over++
		} else {
			apart++
		}
	}
	if min(alike, over, apart) < 500 {
		t.Errorf("too few of a kind: %d, %d, %d", alike, over, apart)
	}
}

func TestPortsAndGroups(t *testing.T) { // P21.1: what is written and applied, in order, as often as it is there
	f := api.Flow{Insts: []api.Inst{
		apply(output(7), toGroup(3), output(7), api.Action{Kind: 18, Port: 99, Group: 98}),
		{Kind: 1, Table: 2, Acts: []api.Action{output(91), toGroup(81)}},
		write(toGroup(3), toGroup(1), output(2), api.Action{Kind: 17, Ether: 9}),
		{Kind: 2, Acts: []api.Action{output(92), toGroup(82)}},
		{Kind: 5, Acts: []api.Action{output(93), toGroup(83)}},
		write(),
		apply(output(7), output(-1), output(api.PortAny), toGroup(api.GroupAny)),
		{Kind: 0, Acts: []api.Action{output(94), toGroup(84)}},
		{Kind: 6, Acts: []api.Action{output(95), toGroup(85)}},
		write(toGroup(math.MinInt), output(math.MaxInt), api.Action{Kind: 25, Port: 96, Group: 86}),
	}}
	if got := flow.Ports(f); !slices.Equal(got, []int{7, 7, 2, 7, -1, 0xFFFFFFFF, math.MaxInt}) {
		t.Errorf("Ports: %v", got)
	}
	if got := flow.Groups(f); !slices.Equal(got, []int{3, 3, 1, 0xFFFFFFFF, math.MinInt}) {
		t.Errorf("Groups: %v", got)
	}
}

func TestPortsAndGroupsOfKinds(t *testing.T) { // P21.1: of no other instruction, and none
	for _, f := range []api.Flow{{}, {Insts: []api.Inst{}}, {Insts: []api.Inst{write(), apply()}}, {Match: []api.Oxm{is(0, 1)}}} {
		if len(flow.Ports(f)) != 0 || len(flow.Groups(f)) != 0 {
			t.Errorf("of %v: %v, %v", f, flow.Ports(f), flow.Groups(f))
		}
	}
	kinds := []int{math.MinInt, -3, -1, 0, 1, 2, 3, 4, 5, 6, 7, 255, 65535, 65539, 1<<32 + 3, 1<<32 + 4, math.MaxInt}
	for _, kind := range kinds {
		f := api.Flow{Insts: []api.Inst{{Kind: kind, Acts: []api.Action{output(5), toGroup(6)}}}}
		var ports, groups []int
		if kind == api.InstWrite || kind == api.InstApply {
			ports, groups = []int{5}, []int{6}
		}
		if !slices.Equal(flow.Ports(f), ports) || !slices.Equal(flow.Groups(f), groups) {
			t.Errorf("of an instruction of kind %d: %v, %v", kind, flow.Ports(f), flow.Groups(f))
		}
	}
}

// roomy is f with lists that have spare room, and what stands in it.
func roomy(f api.Flow) api.Flow {
	f = copied(f)
	f.Match = append(f.Match, is(9, 9), is(-1, 3))[:len(f.Match)]
	for i := range f.Insts {
		f.Insts[i].Acts = append(f.Insts[i].Acts, output(77), toGroup(78))[:len(f.Insts[i].Acts)]
	}
	f.Insts = append(f.Insts, apply(output(79)), write(toGroup(80)))[:len(f.Insts)]
	return f
}

// whole is a copy of f with two of each list's spare room.
func whole(f api.Flow) api.Flow {
	f.Match = f.Match[:len(f.Match)+2]
	insts := slices.Clone(f.Insts[:len(f.Insts)+2])
	for i := range f.Insts {
		insts[i].Acts = insts[i].Acts[:len(insts[i].Acts)+2]
	}
	f.Insts = insts
	return copied(f)
}

// wipe overwrites f's lists, and the room behind them.
func wipe(f api.Flow) {
	for _, i := range f.Insts {
		clear(i.Acts[:cap(i.Acts)])
	}
	clear(f.Match[:cap(f.Match)])
	clear(f.Insts[:cap(f.Insts)])
}

func TestListsStay(t *testing.T) { // R3: what is handed in, and its spare room
	for _, f := range append(changed(plain()), plain(), api.Flow{}, api.Flow{Match: single()}) {
		a, b := roomy(f), roomy(f)
		was := whole(a)
		got := flow.Of(modOf(a))
		c, ports, groups := flow.Cube(a), flow.Ports(a), flow.Groups(a)
		flow.Same(a, b)
		flow.Alike(a, b)
		flow.Overlap(a, b)
		flow.Covers(c, a)
		if !equal(whole(a), was) || !equal(whole(b), was) {
			t.Errorf("a flow was changed: %v", f)
		}
		// What is done to what was handed in is not seen.
		wipe(a)
		if !equal(got, f) || c != flow.Cube(b) || !slices.Equal(ports, flow.Ports(b)) || !slices.Equal(groups, flow.Groups(b)) {
			t.Errorf("what was answered hangs on what became of %v", f)
		}
	}
}

func TestAnswersAreApart(t *testing.T) { // R3, R4: no answer with an argument, another answer, or a list of its own
	for _, f := range []api.Flow{plain(), roomy(plain()), {}, {Match: []api.Oxm{}, Insts: []api.Inst{}}} {
		was := copied(f)
		kept, other := flow.Of(modOf(f)), flow.Of(modOf(f))
		for i := range other.Insts { // not one instruction's actions with another one's
			clear(other.Insts[i].Acts[:cap(other.Insts[i].Acts)])
			for k := i + 1; k < len(other.Insts); k++ {
				if !slices.Equal(other.Insts[k].Acts, f.Insts[k].Acts) {
					t.Errorf("Of shares actions of %d and %d", i, k)
				}
			}
		}
		wipe(other)
		ports, groups := flow.Ports(f), flow.Groups(f)
		clear(ports[:cap(ports)])
		clear(groups[:cap(groups)])
		if !equal(kept, was) || !equal(f, was) {
			t.Errorf("Of shares its answers: %v", kept)
		}
		if p, g := flow.Ports(f), flow.Groups(f); slices.Contains(p, 0) || slices.Contains(g, 0) {
			t.Errorf("Ports, Groups share their answers: %v, %v", p, g)
		}
	}
}

func TestSpareRoomIsNotTheAnswers(t *testing.T) { // R3: what is put behind an answer is not behind what was handed in
	f := roomy(plain())
	was := whole(f)
	got := flow.Of(modOf(f))
	_ = append(got.Match, is(3, 3), is(4, 4))
	_ = append(got.Insts, api.Inst{Kind: 55}, api.Inst{Kind: 56})
	for _, i := range got.Insts {
		_ = append(i.Acts, output(57), output(58))
	}
	if !equal(whole(f), was) {
		t.Errorf("Of shares spare room: %v", whole(f))
	}
}
