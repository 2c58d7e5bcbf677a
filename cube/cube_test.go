package cube_test

import (
	"math"
	"testing"

	"weirbox/api"
	"weirbox/cube"
)

var whole = api.Wide{Hi: math.MaxUint64, Lo: math.MaxUint64}

// ends are bits at the ends of both halves.
var ends = []api.Wide{{Lo: 1}, {Lo: 1 << 63}, {Hi: 1}, {Hi: 1 << 63}}

func and(a, b api.Wide) api.Wide { return api.Wide{Hi: a.Hi & b.Hi, Lo: a.Lo & b.Lo} }
func or(a, b api.Wide) api.Wide  { return api.Wide{Hi: a.Hi | b.Hi, Lo: a.Lo | b.Lo} }
func xor(a, b api.Wide) api.Wide { return api.Wide{Hi: a.Hi ^ b.Hi, Lo: a.Lo ^ b.Lo} }

// one is a header that has bits in all fields, also beyond a field's.
func one() api.Header {
	var h api.Header
	for f := range h {
		h[f] = api.Wide{Hi: 0x0102030405060708 * uint64(f+1), Lo: 0xF1E2D3C4B5A69788 + uint64(f)*0x1111}
	}
	return h
}

// some is a cube of which some bits count, of all fields, with bits of Value that do not.
func some() api.Cube {
	var c api.Cube
	for f, v := range one() {
		c[f] = api.Tern{Value: v, Mask: api.Wide{Hi: 1<<63 | 1 | 0xF0<<f, Lo: 1<<63 | 1 | 0xABC<<f}}
	}
	return c
}

// loose is a cube with bits of Value of which none counts.
func loose() api.Cube {
	var c api.Cube
	for f, v := range one() {
		c[f].Value = v
	}
	return c
}

// full is the cube of which all counts, and has h alone.
func full(h api.Header) api.Cube {
	var c api.Cube
	for f, v := range h {
		c[f] = api.Tern{Value: v, Mask: whole}
	}
	return c
}

// only is the cube of which just those bits of a field count; Value has others, too.
func only(f int, value, mask api.Wide) api.Cube {
	var c api.Cube
	c[f] = api.Tern{Value: value, Mask: mask}
	return c
}

func samples() []api.Cube {
	all := []api.Cube{{}, loose(), some(), full(one()), full(api.Header{})}
	for _, f := range []int{0, 1, api.Fields / 2, api.Fields - 1} {
		for _, bit := range ends {
			all = append(all, only(f, whole, bit), only(f, xor(whole, bit), bit))
		}
	}
	return all
}

func headers() []api.Header {
	all := []api.Header{{}, one()}
	for _, f := range []int{0, 1, api.Fields / 2, api.Fields - 1} {
		for _, bit := range ends {
			other, alone := one(), api.Header{}
			other[f], alone[f] = xor(other[f], bit), bit
			all = append(all, other, alone)
		}
	}
	return all
}

// clean, has, within and meet are told anew, so that what the answers are held against hangs on no layer.
func clean(c api.Cube) api.Cube {
	for f := range c {
		c[f].Value = and(c[f].Value, c[f].Mask)
	}
	return c
}

func has(c api.Cube, h api.Header) bool {
	for f, t := range c {
		if and(t.Mask, t.Value) != and(t.Mask, h[f]) {
			return false
		}
	}
	return true
}

func within(a, b api.Cube) bool {
	for f, t := range b {
		if and(a[f].Mask, t.Mask) != t.Mask || and(a[f].Value, t.Mask) != and(t.Value, t.Mask) {
			return false
		}
	}
	return true
}

func meet(a, b api.Cube) (api.Cube, bool) {
	a, b = clean(a), clean(b)
	var c api.Cube
	for f := range c {
		both := and(a[f].Mask, b[f].Mask)
		if and(a[f].Value, both) != and(b[f].Value, both) {
			return api.Cube{}, false
		}
		c[f] = api.Tern{Value: or(a[f].Value, b[f].Value), Mask: or(a[f].Mask, b[f].Mask)}
	}
	return c, true
}

func TestAll(t *testing.T) { // P6.1
	if got := cube.All(); got != (api.Cube{}) {
		t.Errorf("All: %x", got)
	}
	for _, h := range headers() {
		if !cube.Has(cube.All(), h) {
			t.Errorf("All has not %x", h)
		}
	}
}

func TestHas(t *testing.T) { // P6.1
	for _, c := range samples() {
		for _, h := range headers() {
			if got, want := cube.Has(c, h), has(c, h); got != want {
				t.Errorf("Has(%x, %x): %v", c, h, got)
			}
		}
	}
}

func TestHasFieldByField(t *testing.T) { // P6.1: just one field is otherwise
	if !cube.Has(some(), one()) || !cube.Has(full(one()), one()) || !cube.Has(loose(), api.Header{}) {
		t.Error("Has: false")
	}
	for f := range api.Fields {
		for _, bit := range ends {
			h := one()
			h[f] = xor(h[f], bit)
			if cube.Has(some(), h) || cube.Has(full(one()), h) {
				t.Errorf("Has of one that is otherwise in bit %x of field %d: true", bit, f)
			}
			if !cube.Has(loose(), h) || !cube.Has(only(f, h[f], bit), h) || cube.Has(only(f, one()[f], bit), h) {
				t.Errorf("Has where bit %x of field %d counts, or nothing", bit, f)
			}
		}
	}
}

func TestMeet(t *testing.T) { // P6.1
	for _, a := range samples() {
		for _, b := range samples() {
			want, met := meet(a, b)
			if got, ok := cube.Meet(a, b); got != want || ok != met {
				t.Errorf("Meet(%x, %x): %x, %v, want %x, %v", a, b, got, ok, want, met)
			}
		}
	}
}

func TestMeetFieldByField(t *testing.T) { // P6.1: they do not meet in just one field
	for f := range api.Fields {
		for _, bit := range ends {
			other := some()
			other[f].Value = xor(other[f].Value, bit)
			for _, pair := range [][2]api.Cube{{some(), other}, {other, some()}, {full(one()), other}, {other, full(one())}} {
				if got, ok := cube.Meet(pair[0], pair[1]); ok || got != (api.Cube{}) {
					t.Errorf("Meet of two that are otherwise in bit %x of field %d: %x, %v", bit, f, got, ok)
				}
			}
			// The same bit, where it does not count in one of them.
			free := loose()
			free[f].Value = xor(free[f].Value, bit)
			if got, ok := cube.Meet(free, some()); !ok || got != clean(some()) {
				t.Errorf("Meet with one in which nothing counts: %x, %v", got, ok)
			}
		}
	}
}

func TestMeetOfTwoFields(t *testing.T) { // P6.1: told without a second reckoning
	const last = api.Fields - 1
	a, b := only(0, api.Wide{Lo: 7}, api.Wide{Lo: 5}), only(last, api.Wide{Hi: 3}, api.Wide{Hi: 2})
	want := api.Cube{0: {Value: api.Wide{Lo: 5}, Mask: api.Wide{Lo: 5}}, last: {Value: api.Wide{Hi: 2}, Mask: api.Wide{Hi: 2}}}
	if got, ok := cube.Meet(a, b); !ok || got != want {
		t.Errorf("Meet: %x, %v", got, ok)
	}
	if got, ok := cube.Meet(loose(), loose()); !ok || got != (api.Cube{}) {
		t.Errorf("Meet of two of which nothing counts: %x, %v", got, ok)
	}
	if got, ok := cube.Meet(full(one()), full(one())); !ok || got != full(one()) {
		t.Errorf("Meet of two of which all counts: %x, %v", got, ok)
	}
}

func TestWithin(t *testing.T) { // P6.1
	for _, a := range samples() {
		for _, b := range samples() {
			if got, want := cube.Within(a, b), within(a, b); got != want {
				t.Errorf("Within(%x, %x): %v", a, b, got)
			}
		}
	}
}

func TestWithinFieldByField(t *testing.T) { // P6.1: just one field is not
	if !cube.Within(some(), some()) || !cube.Within(full(one()), some()) || !cube.Within(some(), loose()) {
		t.Error("Within: false")
	}
	for f := range api.Fields {
		for _, bit := range ends {
			less, other := some(), some()
			less[f].Mask = xor(less[f].Mask, bit)
			other[f].Value = xor(other[f].Value, bit)
			if !cube.Within(some(), less) || cube.Within(less, some()) {
				t.Errorf("Within where bit %x of field %d does not count in one", bit, f)
			}
			if cube.Within(some(), other) || cube.Within(other, some()) || cube.Within(full(one()), other) {
				t.Errorf("Within where bit %x of field %d is otherwise: true", bit, f)
			}
		}
	}
}

func TestPick(t *testing.T) { // P6.1
	for _, c := range samples() {
		got := cube.Pick(c)
		for f := range got {
			if want := and(c[f].Value, c[f].Mask); got[f] != want {
				t.Errorf("Pick(%x): %x in field %d, want %x", c, got[f], f, want)
			}
		}
	}
	if cube.Pick(full(one())) != one() || cube.Pick(loose()) != (api.Header{}) {
		t.Error("Pick where all, or nothing, counts")
	}
}

func TestSize(t *testing.T) { // P6.1
	if cube.Size(cube.All()) != 0 || cube.Size(loose()) != 0 {
		t.Errorf("Size where nothing counts: %d, %d", cube.Size(cube.All()), cube.Size(loose()))
	}
	if got := cube.Size(full(one())); got != 128*api.Fields {
		t.Errorf("Size where all counts: %d", got)
	}
	var c api.Cube
	for f := range api.Fields {
		for i, bit := range ends {
			c[f].Mask = or(c[f].Mask, bit)
			if got, want := cube.Size(c), f*len(ends)+i+1; got != want {
				t.Errorf("Size of bits up to %x of field %d: %d, want %d", bit, f, got, want)
			}
		}
		if got := cube.Size(only(f, api.Wide{}, api.Wide{Hi: 0xFF00, Lo: 0x7F})); got != 15 {
			t.Errorf("Size of 15 bits of field %d: %d", f, got)
		}
	}
}

func TestClean(t *testing.T) { // P6.1
	for _, c := range samples() {
		if got, want := cube.Clean(c), clean(c); got != want {
			t.Errorf("Clean(%x): %x, want %x", c, got, want)
		}
	}
	for f := range api.Fields {
		c := full(one())
		c[f].Mask = api.Wide{Lo: 0xFF}
		want := c
		want[f].Value = api.Wide{Lo: c[f].Value.Lo & 0xFF}
		if got := cube.Clean(c); got != want {
			t.Errorf("Clean where field %d alone is not: %x", f, got)
		}
	}
	if cube.Clean(loose()) != (api.Cube{}) {
		t.Errorf("Clean where nothing counts: %x", cube.Clean(loose()))
	}
}

func TestOne(t *testing.T) { // P6.1
	for _, h := range headers() {
		if got := cube.One(h); got != full(h) {
			t.Errorf("One(%x): %x", h, got)
		}
		for _, other := range headers() {
			if cube.Has(cube.One(h), other) != (h == other) {
				t.Errorf("One(%x) has %x: %v", h, other, h != other)
			}
		}
	}
}

func TestMeetIsInBoth(t *testing.T) { // P6.2
	for _, a := range samples() {
		for _, b := range samples() {
			m, ok := cube.Meet(a, b)
			if ok && (!cube.Within(m, a) || !cube.Within(m, b)) {
				t.Errorf("Meet(%x, %x) is not within both: %x", a, b, m)
			}
			for _, h := range append(headers(), cube.Pick(a), cube.Pick(b), cube.Pick(m)) {
				both := cube.Has(a, h) && cube.Has(b, h)
				if both != (ok && cube.Has(m, h)) {
					t.Errorf("Meet(%x, %x): %x, %v; %x is in both: %v", a, b, m, ok, h, both)
				}
			}
		}
	}
}

func TestPickIsInIt(t *testing.T) { // P6.2
	for _, c := range samples() {
		if !cube.Has(c, cube.Pick(c)) {
			t.Errorf("Pick of %x is not in it: %x", c, cube.Pick(c))
		}
	}
}

func TestWithinHasNoMore(t *testing.T) { // P6.2
	for _, a := range samples() {
		for _, b := range samples() {
			if !cube.Within(a, b) {
				continue
			}
			for _, h := range append(headers(), cube.Pick(a)) {
				if cube.Has(a, h) && !cube.Has(b, h) {
					t.Errorf("%x is within %x, and has %x alone", a, b, h)
				}
			}
		}
	}
}

func TestNothingChangedOrKept(t *testing.T) { // R3, R4
	a, b, h := some(), loose(), one()
	first, _ := cube.Meet(a, b)
	kept := first
	first[0], first[api.Fields-1] = api.Tern{}, api.Tern{}
	c := cube.Clean(a)
	c[0] = api.Tern{}
	p := cube.Pick(a)
	p[0] = api.Wide{}
	all := cube.All()
	all[0].Mask = whole
	o := cube.One(h)
	o[0] = api.Tern{}
	if a != some() || b != loose() || h != one() {
		t.Error("what is handed in is changed")
	}
	again, _ := cube.Meet(a, b)
	if again != kept || cube.Clean(a) != clean(a) || cube.All() != (api.Cube{}) || cube.One(h) != full(h) {
		t.Error("what was answered is kept")
	}
}
