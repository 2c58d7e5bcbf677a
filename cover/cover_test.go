package cover_test

import (
	"math"
	"slices"
	"testing"

	"weirbox/api"
	"weirbox/cover"
)

const last = api.Fields - 1

var whole = api.Wide{Hi: math.MaxUint64, Lo: math.MaxUint64}

// spots are bits at the ends of both halves, of the first and the last field and one between, in the order in which they are carved.
var spots = []struct{ field, bit int }{{0, 127}, {0, 0}, {9, 5}, {last, 64}, {last, 63}}

func and(a, b api.Wide) api.Wide { return api.Wide{Hi: a.Hi & b.Hi, Lo: a.Lo & b.Lo} }
func or(a, b api.Wide) api.Wide  { return api.Wide{Hi: a.Hi | b.Hi, Lo: a.Lo | b.Lo} }
func xor(a, b api.Wide) api.Wide { return api.Wide{Hi: a.Hi ^ b.Hi, Lo: a.Lo ^ b.Lo} }

func at(i int) api.Wide {
	if i < 64 {
		return api.Wide{Lo: 1 << i}
	}
	return api.Wide{Hi: 1 << (i - 64)}
}

// lay makes a cube of letters, one a spot: '0' and '1' count, '-' does not, and '+' does not, though it is on in Value.
func lay(letters string) api.Cube {
	var c api.Cube
	for k, s := range spots {
		t, bit := &c[s.field], at(s.bit)
		if letters[k] == '1' || letters[k] == '+' {
			t.Value = or(t.Value, bit)
		}
		if letters[k] == '0' || letters[k] == '1' {
			t.Mask = or(t.Mask, bit)
		}
	}
	return c
}

func lays(all ...string) []api.Cube {
	var l []api.Cube
	for _, letters := range all {
		l = append(l, lay(letters))
	}
	return l
}

// pick is the header that has the bits of c that count alone.
func pick(c api.Cube) api.Header {
	var h api.Header
	for f, t := range c {
		h[f] = and(t.Value, t.Mask)
	}
	return h
}

func every(of string, many int) []string {
	all := []string{""}
	for range many {
		var longer []string
		for _, word := range all {
			for _, r := range of {
				longer = append(longer, word+string(r))
			}
		}
		all = longer
	}
	return all
}

// has, within, meets and parts are told anew, so that what the answers are held against hangs on no layer.
func has(c api.Cube, h api.Header) bool {
	for f, t := range c {
		if and(t.Mask, t.Value) != and(t.Mask, h[f]) {
			return false
		}
	}
	return true
}

func within(a, b api.Cube) bool {
	for f, t := range b {
		if and(a[f].Mask, t.Mask) != t.Mask || and(a[f].Value, t.Mask) != and(t.Value, t.Mask) {
			return false
		}
	}
	return true
}

func meets(a, b api.Cube) bool {
	for f := range a {
		if and(and(a[f].Mask, b[f].Mask), xor(a[f].Value, b[f].Value)) != (api.Wide{}) {
			return false
		}
	}
	return true
}

// parts is of two that meet, of which the spots alone count.
func parts(a, b api.Cube) []api.Cube {
	var all []api.Cube
	left := a
	for _, s := range spots {
		f, bit := s.field, at(s.bit)
		if and(b[f].Mask, bit) != bit || and(a[f].Mask, bit) == bit {
			continue
		}
		left[f].Mask = or(left[f].Mask, bit)
		left[f].Value = or(xor(left[f].Value, and(left[f].Value, bit)), and(b[f].Value, bit))
		part := left
		part[f].Value = xor(left[f].Value, bit)
		all = append(all, part)
	}
	return all
}

// look is P8.1 by its words, and counts the steps.
func look(c api.Cube, l []api.Cube, steps *int) (api.Header, bool) {
	*steps++
	if slices.ContainsFunc(l, func(x api.Cube) bool { return within(c, x) }) {
		return api.Header{}, false
	}
	i := slices.IndexFunc(l, func(x api.Cube) bool { return meets(c, x) })
	if i < 0 {
		return pick(c), true
	}
	for _, part := range parts(c, l[i]) {
		if h, ok := look(part, l[i+1:], steps); ok {
			return h, true
		}
	}
	return api.Header{}, false
}

// check looks with budgets on both sides of the steps that are needed, and of what has no bound.
func check(t *testing.T, c api.Cube, l []api.Cube, want api.Header, found bool, steps int) {
	t.Helper()
	for _, most := range []int{math.MinInt, -1, 0, 1, steps - 1, steps, steps + 1, api.Unbounded - 1, api.Unbounded, api.Unbounded + 1, math.MaxInt} {
		h, ok, e := cover.Look(c, l, most)
		if most < steps {
			if ok || e != api.ErrBudget || h != (api.Header{}) {
				t.Errorf("Look(%x, %x, %d): %x, %v, %d, want ErrBudget, of %d steps", c, l, most, h, ok, e, steps)
			}
		} else if h != want || ok != found || e != api.OK {
			t.Errorf("Look(%x, %x, %d): %x, %v, %d, want %x, %v", c, l, most, h, ok, e, want, found)
		}
	}
}

func TestLookOfLetters(t *testing.T) { // P8.1, told without a second reckoning
	for _, one := range []struct {
		c     string
		l     []api.Cube
		want  string
		steps int
	}{
		{"-----", nil, "-----", 1},      // covered by none
		{"1+0-+", nil, "1-0--", 1},      // what is told has the bits that count alone
		{"-----", lays("-----"), "", 1}, // by one
		{"10110", lays("10110"), "", 1},
		{"10110", lays("1----"), "", 1},
		{"1----", lays("0----", "00000", "01111"), "1----", 1}, // by none that meets it
		{"-----", lays("0----"), "1----", 2},
		{"-----", lays("0----", "1----"), "", 2},          // by two together
		{"-----", lays("1----", "1----", "0----"), "", 2}, // one is behind
		{"-----", lays("1----", "+++++"), "", 1},          // by one that is not the first
		{"-----", lays("00---", "01---", "1----"), "", 3}, // 1----, then 01---
		{"-----", lays("10110"), "0----", 2},              // the first part tells
		{"-----", lays("10110", "0----"), "11---", 3},     // the second one
		{"-----", lays("10110", "0----", "11---", "100--", "1010-"), "10111", 6},
		{"-----", lays("0----", "-0---", "--0--", "---0-", "----0"), "11111", 6}, // but for one header
		{"--1--", lays("1----", "-1---", "--0--", "---1-", "----1"), "00100", 5},
		{"-----", lays("0----", "-0---", "--0--", "---0-", "----0", "11111"), "", 6},
		{"-----", lays("0----", "----1", "0---1", "1---0"), "", 3},
		{"-----", lays("-1---", "1----", "0--1-", "00-0-"), "", 4},
	} {
		check(t, lay(one.c), one.l, pick(lay(one.want+"-----")), one.want != "", one.steps)
	}
}

func TestLookOfManyLists(t *testing.T) { // P8.1, P8.3
	words := every("01-", len(spots))
	var all []api.Header
	for _, word := range every("01", len(spots)) {
		h := pick(lay(word))
		all = append(all, h)
	}
	next := uint64(1)
	draw := func(n int) int {
		next = next*6364136223846793005 + 1442695040888963407
		return int(next >> 33 % uint64(n))
	}
	told, none := 0, 0
	for range 4000 {
		c := lay(words[draw(len(words))])
		if draw(2) == 0 {
			c = lay("+--+-")
		}
		var l []api.Cube
		for range draw(9) {
			l = append(l, lay(words[draw(len(words))]))
			if draw(2) == 0 { // few bits count
				l[len(l)-1][draw(2)*last].Mask = api.Wide{}
			}
		}
		steps := 0
		want, found := look(c, l, &steps)
		check(t, c, l, want, found, steps)
		h, ok, e := cover.Look(c, l, cover.Bound(c, l))
		if e != api.OK || h != want || ok != found {
			t.Fatalf("Look(%x, %x, Bound): %x, %v, %d", c, l, h, ok, e)
		}
		inAny := func(h api.Header) bool {
			return slices.ContainsFunc(l, func(x api.Cube) bool { return has(x, h) })
		}
		if ok {
			told++
			if !has(c, h) || inAny(h) {
				t.Fatalf("Look(%x, %x): %x", c, l, h)
			}
			continue
		}
		none++
		for _, h := range all {
			if has(c, h) && !inAny(h) {
				t.Fatalf("Look(%x, %x): nothing, but %x", c, l, h)
			}
		}
	}
	if told < 500 || none < 500 {
		t.Errorf("too few lists of a kind: %d, %d", told, none)
	}
}

// less is one cube a bit, that have all headers but h.
func less(h api.Header) []api.Cube {
	var l []api.Cube
	for f := range api.Fields {
		for i := range 128 {
			var c api.Cube
			c[f] = api.Tern{Value: xor(h[f], whole), Mask: at(i)}
			l = append(l, c)
		}
	}
	return l
}

func one() api.Header {
	var h api.Header
	for f := range h {
		h[f] = api.Wide{Hi: 0x8102030405060708 * uint64(f+1), Lo: 0xF1E2D3C4B5A69788 + uint64(f)*0x1111}
	}
	return h
}

func TestAllButOneHeader(t *testing.T) { // P8.1: as deep as it goes
	l := less(one())
	steps := len(l) + 1
	if h, ok, e := cover.Look(api.Cube{}, l, steps); h != one() || !ok || e != api.OK {
		t.Errorf("Look: %x, %v, %d", h, ok, e)
	}
	if h, ok, e := cover.Look(api.Cube{}, l, steps-1); h != (api.Header{}) || ok || e != api.ErrBudget {
		t.Errorf("Look with too few steps: %x, %v, %d", h, ok, e)
	}
	var alone api.Cube
	for f, v := range one() {
		alone[f] = api.Tern{Value: v, Mask: whole}
	}
	if h, ok, e := cover.Look(api.Cube{}, append(l, alone), api.Unbounded); h != (api.Header{}) || ok || e != api.OK {
		t.Errorf("Look where that one is covered, too: %x, %v, %d", h, ok, e)
	}
	check(t, alone, l, one(), true, 1)
}

func TestBound(t *testing.T) { // P8.2
	wideBits := func(mask api.Wide) api.Cube {
		return api.Cube{last: {Mask: mask}}
	}
	for _, one := range []struct {
		c    api.Cube
		l    []api.Cube
		want int
	}{
		{lay("-----"), nil, 1},
		{lay("10110"), []api.Cube{}, 1},
		{lay("-----"), lays("-----"), 2},
		{lay("10110"), lays("+++++", "-----", "+-+-+"), 4},
		{lay("1----"), lays("0----"), 1},
		{lay("1----"), lays("1----"), 2},
		{lay("-----"), lays("11---"), 4},
		{lay("-----"), lays("11111", "-----"), 15},
		{lay("-----"), lays("01---", "--010", "-----", "+++++"), 30},
		{lay("0----"), lays("11111", "--010", "0----", "10---"), 9},
		{api.Cube{}, []api.Cube{wideBits(whole), wideBits(api.Wide{Hi: 7})}, 3 * 128 * 3},
		{api.Cube{}, []api.Cube{wideBits(api.Wide{Hi: math.MaxUint64}), wideBits(api.Wide{Lo: math.MaxUint64})}, 3 * 64 * 64},
	} {
		if got := cover.Bound(one.c, one.l); got != one.want {
			t.Errorf("Bound(%x, %x): %d, want %d", one.c, one.l, got, one.want)
		}
	}
}

func TestBoundIsCut(t *testing.T) { // P8.2: Unbounded at most, also where the product would be beyond any number
	for _, one := range []struct {
		bits, many, more, want int // many cubes of that many bits, and more of no bits
	}{
		{2, 1, 0, 4},
		{16, 7, 0, 1 << 31},
		{16, 9, 6, 1 << 40},
		{16, 9, 5, 15 << 36},
		{16, 9, 7, 1 << 40},
		{16, 10, 0, 1 << 40},
		{128, 9, 0, 1 << 40},
		{64, 11, 0, 1 << 40},
		{64, 5, 0, 6 << 30},
		{128, 100, 3, 1 << 40},
		{128, 0, 5, 6},
	} {
		var l []api.Cube
		for range one.many {
			var c api.Cube
			for i := range one.bits {
				c[last].Mask = or(c[last].Mask, at(i))
			}
			l = append(l, c)
		}
		l = append(l, make([]api.Cube, one.more)...)
		if got := cover.Bound(api.Cube{}, l); got != one.want {
			t.Errorf("Bound of %d of %d bits and %d: %d, want %d", one.many, one.bits, one.more, got, one.want)
		}
	}
	var full api.Cube
	for f := range full {
		full[f].Mask = whole
	}
	for _, many := range []int{1, 2, 3, 4, 5, 6, 40} {
		want := many + 1
		for range many {
			want = min(want*128*api.Fields, api.Unbounded)
		}
		if got := cover.Bound(api.Cube{}, slices.Repeat([]api.Cube{full}, many)); got != want {
			t.Errorf("Bound of %d of which all counts: %d, want %d", many, got, want)
		}
	}
}

func TestMeets(t *testing.T) { // P8.2: as they are, in their order
	l := lays("01-+-", "+++++", "1---0", "-----", "0----", "01-+-", "----1")
	for _, one := range []struct {
		c    string
		want []api.Cube
	}{
		{"-----", l},
		{"+++++", l},
		{"1----", lays("+++++", "1---0", "-----", "----1")},
		{"0---0", lays("01-+-", "+++++", "-----", "0----", "01-+-")},
		{"00--0", lays("+++++", "-----", "0----")},
	} {
		if got := cover.Meets(lay(one.c), l); !slices.Equal(got, one.want) {
			t.Errorf("Meets(%s): %x, want %x", one.c, got, one.want)
		}
	}
	for _, none := range [][]api.Cube{nil, {}, lays("0----", "00000")} {
		if got := cover.Meets(lay("1----"), none); len(got) != 0 {
			t.Errorf("Meets where none does: %x", got)
		}
	}
	for f := range api.Fields {
		for i := range 128 {
			var on, off api.Cube
			on[f] = api.Tern{Value: at(i), Mask: at(i)}
			off[f] = api.Tern{Value: xor(whole, at(i)), Mask: at(i)}
			if got := cover.Meets(on, []api.Cube{off, on, {}}); !slices.Equal(got, []api.Cube{on, {}}) {
				t.Errorf("Meets of bit %d of field %d: %x", i, f, got)
			}
		}
	}
}

func TestEmptyListIsNil(t *testing.T) { // R5
	for _, none := range [][]api.Cube{nil, {}} {
		check(t, lay("1+---"), none, pick(lay("1----")), true, 1)
		if cover.Bound(lay("1----"), none) != 1 || len(cover.Meets(lay("1----"), none)) != 0 {
			t.Error("Bound or Meets of none")
		}
	}
}

func TestNothingChangedOrKept(t *testing.T) { // R3, R4
	l := lays("10110", "0----", "11---", "100--", "+++++", "----1")
	kept := slices.Clone(l)
	given, c := l[:4], lay("-++--")
	for range 2 {
		met := cover.Meets(c, given)
		if !slices.Equal(met, kept[:4]) {
			t.Errorf("Meets: %x", met)
		}
		// What is answered is spoiled, with its spare room.
		met = met[:cap(met)]
		for i := range met {
			met[i] = lay("00000")
		}
		if n := cover.Bound(c, given); n != 5*5*1*2*3 {
			t.Errorf("Bound: %d", n)
		}
		h, ok, e := cover.Look(c, given, 5)
		if h != pick(lay("1010-")) || !ok || e != api.OK {
			t.Errorf("Look: %x, %v, %d", h, ok, e)
		}
		if _, _, e := cover.Look(c, given, 4); e != api.ErrBudget {
			t.Errorf("Look with one step less: %d", e)
		}
		if !slices.Equal(l, kept) || c != lay("-++--") {
			t.Fatal("what is handed in is changed")
		}
	}
}
