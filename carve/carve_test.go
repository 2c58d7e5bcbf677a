package carve_test

import (
	"iter"
	"math"
	"slices"
	"testing"

	"weirbox/api"
	"weirbox/carve"
)

const last = api.Fields - 1

var whole = api.Wide{Hi: math.MaxUint64, Lo: math.MaxUint64}

// spots are bits at the ends of both halves, of the first and the last field and one between, in the order in which they are carved.
var spots = []struct{ field, bit int }{{0, 127}, {0, 0}, {9, 5}, {last, 64}, {last, 63}}

func and(a, b api.Wide) api.Wide { return api.Wide{Hi: a.Hi & b.Hi, Lo: a.Lo & b.Lo} }
func or(a, b api.Wide) api.Wide  { return api.Wide{Hi: a.Hi | b.Hi, Lo: a.Lo | b.Lo} }
func xor(a, b api.Wide) api.Wide { return api.Wide{Hi: a.Hi ^ b.Hi, Lo: a.Lo ^ b.Lo} }

func at(i int) api.Wide {
	if i < 64 {
		return api.Wide{Lo: 1 << i}
	}
	return api.Wide{Hi: 1 << (i - 64)}
}

// lay makes a cube of letters, one a spot: '0' and '1' count, '-' does not, and '+' does not, though it is on in Value.
func lay(letters string) api.Cube {
	var c api.Cube
	for k, s := range spots {
		t, bit := &c[s.field], at(s.bit)
		if letters[k] == '1' || letters[k] == '+' {
			t.Value = or(t.Value, bit)
		}
		if letters[k] == '0' || letters[k] == '1' {
			t.Mask = or(t.Mask, bit)
		}
	}
	return c
}

func lays(all ...string) []api.Cube {
	var l []api.Cube
	for _, letters := range all {
		l = append(l, lay(letters))
	}
	return l
}

// every answers all words of so many letters.
func every(of string, many int) []string {
	all := []string{""}
	for range many {
		var longer []string
		for _, word := range all {
			for _, r := range of {
				longer = append(longer, word+string(r))
			}
		}
		all = longer
	}
	return all
}

// headers answers one for each way to have the spots, with other bits on beside.
func headers() []api.Header {
	var all []api.Header
	for _, word := range every("01", len(spots)) {
		var h api.Header
		for f, t := range lay(word) {
			h[f] = or(t.Value, at(77))
		}
		all = append(all, h)
	}
	return all
}

// has, meets, clean and parts are told anew, so that what the answers are held against hangs on no layer.
func has(c api.Cube, h api.Header) bool {
	for f, t := range c {
		if and(t.Mask, t.Value) != and(t.Mask, h[f]) {
			return false
		}
	}
	return true
}

func clean(c api.Cube) api.Cube {
	for f := range c {
		c[f].Value = and(c[f].Value, c[f].Mask)
	}
	return c
}

func meets(a, b api.Cube) bool {
	for f := range a {
		if and(and(a[f].Mask, b[f].Mask), xor(a[f].Value, b[f].Value)) != (api.Wide{}) {
			return false
		}
	}
	return true
}

func parts(a, b api.Cube) []api.Cube {
	if !meets(a, b) {
		return []api.Cube{clean(a)}
	}
	var all []api.Cube
	left := clean(a)
	for f := range left {
		for i := 127; i >= 0; i-- {
			bit := at(i)
			if and(b[f].Mask, bit) != bit || and(a[f].Mask, bit) == bit {
				continue
			}
			left[f].Mask = or(left[f].Mask, bit)
			left[f].Value = or(left[f].Value, and(b[f].Value, bit))
			part := left
			part[f].Value = xor(left[f].Value, bit)
			all = append(all, part)
		}
	}
	return all
}

// some is a cube of which some bits count, of all fields, with bits of Value that do not.
func some() api.Cube {
	var c api.Cube
	for f := range c {
		c[f] = api.Tern{
			Value: api.Wide{Hi: 0x8102030405060708 * uint64(f+1), Lo: 0xF1E2D3C4B5A69788 + uint64(f)*0x1111},
			Mask:  api.Wide{Hi: 1<<63 | 1 | 0xF0<<f, Lo: 1<<63 | 1 | 0xABC<<f},
		}
	}
	return c
}

// full is the cube of which all counts, and is as some.
func full() api.Cube {
	c := some()
	for f := range c {
		c[f].Mask = whole
	}
	return c
}

// loose is the cube of which nothing counts, with bits of Value.
func loose() api.Cube {
	c := some()
	for f := range c {
		c[f].Mask = api.Wide{}
	}
	return c
}

func check(t *testing.T, a, b api.Cube, want []api.Cube) {
	t.Helper()
	if got := carve.List(a, b); !slices.Equal(got, want) {
		t.Errorf("List(%x, %x): %x, want %x", a, b, got, want)
	}
	if got := slices.Collect(carve.Parts(a, b)); !slices.Equal(got, want) {
		t.Errorf("Parts(%x, %x): %x, want %x", a, b, got, want)
	}
	if got := carve.Many(a, b); got != len(want) {
		t.Errorf("Many(%x, %x): %d, want %d", a, b, got, len(want))
	}
}

func TestPartsOfLetters(t *testing.T) { // P7.1, told without a second reckoning
	for _, one := range []struct {
		a, b string
		want []api.Cube
	}{
		{"-----", "-----", nil},
		{"+++++", "+++++", nil},
		{"01010", "01010", nil},
		{"01010", "0----", nil},
		{"01010", "+++++", nil},
		{"-----", "1----", lays("0----")},
		{"-----", "----0", lays("----1")},
		{"-----", "10110", lays("0----", "11---", "100--", "1010-", "10111")},
		{"+++++", "01001", lays("1----", "00---", "011--", "0101-", "01000")},
		{"-1-0-", "01+00", lays("11-0-", "01-01")},
		{"-+-0-", "-1-0+", lays("-0-0-")},
		{"1----", "0----", lays("1----")},
		{"+0-+1", "-1---", lays("-0--1")},
		{"1++++", "01111", lays("1----")},
		{"++++1", "11110", lays("----1")},
	} {
		check(t, lay(one.a), lay(one.b), one.want)
	}
}

func TestPartsOfAllLetters(t *testing.T) { // P7.1
	words := every("01-+", 3)
	for _, x := range words {
		for _, y := range words {
			a, b := lay("-"+x+"-"), lay("+"+y+"1")
			check(t, a, b, parts(a, b))
			a, b = lay(x[:1]+"1"+x[1:]+"-"), lay(y+"-0")
			check(t, a, b, parts(a, b))
		}
	}
}

func TestPartsOfAllFields(t *testing.T) { // P7.1
	for _, a := range []api.Cube{{}, loose(), some(), full()} {
		for _, b := range []api.Cube{{}, loose(), some(), full()} {
			check(t, a, b, parts(a, b))
		}
		check(t, a, a, nil)
		check(t, clean(a), a, nil)
		check(t, a, clean(a), nil)
	}
	if got := carve.Many(api.Cube{}, full()); got != 128*api.Fields {
		t.Errorf("Many where all bits are parts: %d", got)
	}
}

func TestPartsOfOneBit(t *testing.T) { // P7.1: each bit of each field, on and off
	for f := range api.Fields {
		for i := range 128 {
			var on, off, free api.Cube
			on[f] = api.Tern{Value: at(i), Mask: at(i)}
			off[f] = api.Tern{Mask: at(i)}
			free[f] = api.Tern{Value: whole}
			check(t, free, on, []api.Cube{off})
			check(t, free, off, []api.Cube{on})
			check(t, on, off, []api.Cube{on})
			check(t, off, on, []api.Cube{off})
			check(t, on, free, nil)
		}
	}
}

func TestNoMeetInOneField(t *testing.T) { // P7.1: all else would be parts
	for f := range api.Fields {
		for _, i := range []int{0, 63, 64, 127} {
			a, b := some(), full()
			b[f].Value = xor(b[f].Value, at(i))
			check(t, a, b, []api.Cube{clean(a)})
			check(t, b, a, []api.Cube{b})
		}
	}
}

func TestEachHeaderIsInOnePart(t *testing.T) { // P7.2
	words := every("01-", len(spots))
	all := headers()
	for n, x := range words {
		for m := n % 5; m < len(words); m += 5 {
			a, b := lay(x), lay(words[m])
			list := carve.List(a, b)
			for _, h := range all {
				want := 0
				if has(a, h) && !has(b, h) {
					want = 1
				}
				got := 0
				for _, part := range list {
					if has(part, h) {
						got++
					}
				}
				if got != want {
					t.Fatalf("%s without %s: %x is in %d parts, want %d", x, words[m], h, got, want)
				}
			}
		}
	}
}

func TestPartsAreLeftEarly(t *testing.T) { // P7.1: nothing is told any more
	pairs := [][2]api.Cube{{{}, full()}, {lay("-----"), lay("10110")}, {lay("1----"), lay("0----")}}
	for _, pair := range pairs {
		want := parts(pair[0], pair[1])
		for many := 1; many <= min(len(want), 200); many++ {
			var got []api.Cube
			carve.Parts(pair[0], pair[1])(func(part api.Cube) bool {
				got = append(got, part)
				return len(got) < many
			})
			if !slices.Equal(got, want[:many]) {
				t.Errorf("left after %d: %d parts", many, len(got))
			}
		}
	}
}

func TestPartsAreGoneThroughAgain(t *testing.T) { // P7.1, R4
	for _, pair := range [][2]api.Cube{{lay("-----"), lay("10110")}, {lay("1----"), lay("0----")}, {some(), full()}} {
		want := parts(pair[0], pair[1])
		p := carve.Parts(pair[0], pair[1])
		for part := range p {
			if part != want[0] {
				t.Errorf("first part: %x, want %x", part, want[0])
			}
			break
		}
		for range 2 {
			if got := slices.Collect(p); !slices.Equal(got, want) {
				t.Errorf("again: %x, want %x", got, want)
			}
		}
	}
}

func TestTwoWaysThroughTheParts(t *testing.T) { // P7.1: one within the other
	want := parts(lay("-----"), lay("10110"))
	p := carve.Parts(lay("-----"), lay("10110"))
	n := 0
	for part := range p {
		if part != want[n] || !slices.Equal(slices.Collect(p), want) {
			t.Errorf("part %d: %x, want %x", n, part, want[n])
		}
		n++
	}
	if n != len(want) {
		t.Errorf("%d parts, want %d", n, len(want))
	}
}

func TestNothingChangedOrKept(t *testing.T) { // R3
	a, b := some(), full()
	want := parts(a, b)
	var p iter.Seq[api.Cube] = carve.Parts(a, b)
	l := carve.List(a, b)
	if a != some() || b != full() {
		t.Error("what is handed in is changed")
	}
	// What was handed in may change while the parts are gone through, and what was answered, too.
	n := 0
	for part := range p {
		a[n%api.Fields], b[last] = api.Tern{}, api.Tern{Mask: whole}
		if part != want[n] {
			t.Fatalf("part %d hangs on what is not its own", n)
		}
		part[0], part[last] = api.Tern{}, api.Tern{}
		n++
	}
	for i := range l[:cap(l)] {
		l[:cap(l)][i] = loose()
	}
	if !slices.Equal(carve.List(some(), full()), want) || !slices.Equal(slices.Collect(p), want) {
		t.Error("what was answered is kept")
	}
}
