package rewrite_test

import (
	"math"
	"testing"

	"weirbox/api"
	"weirbox/rewrite"
)

const last = api.Fields - 1

var whole = api.Wide{Hi: math.MaxUint64, Lo: math.MaxUint64}

// ends are the places at the ends of both halves.
var ends = []int{0, 63, 64, 127}

// none are fields that are none.
var none = []int{math.MinInt, -1 << 32, -24, -1, 24, 25, 47, 48, 255, 256, 1 << 32, math.MaxInt}

func at(i int) api.Wide {
	if i < 64 {
		return api.Wide{Lo: 1 << i}
	}
	return api.Wide{Hi: 1 << (i - 64)}
}

func xor(a, b api.Wide) api.Wide { return api.Wide{Hi: a.Hi ^ b.Hi, Lo: a.Lo ^ b.Lo} }

func bitOf(a api.Wide, i int) bool {
	if i < 64 {
		return a.Lo>>i&1 == 1
	}
	return a.Hi>>(i-64)&1 == 1
}

// lay is the number, or the tern's half, whose bits are told one by one: what the answers are held against hangs on no layer.
func lay(on func(i int) bool) api.Wide {
	var a api.Wide
	for i := range 128 {
		if on(i) {
			a = xor(a, at(i))
		}
	}
	return a
}

// cleanTern, overTern, lessTern and gets are the chapter's words for a field, bit by bit.
func cleanTern(t api.Tern) api.Tern {
	return api.Tern{Value: lay(func(i int) bool { return bitOf(t.Mask, i) && bitOf(t.Value, i) }), Mask: t.Mask}
}

// overTern is what is got by b, or else what a has.
func overTern(a, b api.Tern) api.Tern {
	return cleanTern(api.Tern{
		Mask: lay(func(i int) bool { return bitOf(a.Mask, i) || bitOf(b.Mask, i) }),
		Value: lay(func(i int) bool {
			if bitOf(b.Mask, i) {
				return bitOf(b.Value, i)
			}
			return bitOf(a.Value, i)
		}),
	})
}

// lessTern is c's bits that are not got by r; false, if one that is got is otherwise.
func lessTern(r, c api.Tern) (api.Tern, bool) {
	for i := range 128 {
		if bitOf(r.Mask, i) && bitOf(c.Mask, i) && bitOf(r.Value, i) != bitOf(c.Value, i) {
			return api.Tern{}, false
		}
	}
	return cleanTern(api.Tern{Value: c.Value, Mask: lay(func(i int) bool { return bitOf(c.Mask, i) && !bitOf(r.Mask, i) })}), true
}

func gets(r api.Tern, v api.Wide) api.Wide {
	return lay(func(i int) bool {
		if bitOf(r.Mask, i) {
			return bitOf(r.Value, i)
		}
		return bitOf(v, i)
	})
}

func clean(r api.Rewrite) api.Rewrite {
	for f := range r {
		r[f] = cleanTern(r[f])
	}
	return r
}

func apply(r api.Rewrite, h api.Header) api.Header {
	for f := range h {
		h[f] = gets(r[f], h[f])
	}
	return h
}

func then(a, b api.Rewrite) api.Rewrite {
	for f := range a {
		a[f] = overTern(a[f], b[f])
	}
	return a
}

func before(r api.Rewrite, c api.Cube) (api.Cube, bool) {
	for f := range c {
		t, ok := lessTern(r[f], c[f])
		if !ok {
			return api.Cube{}, false
		}
		c[f] = t
	}
	return c, true
}

func has(c api.Cube, h api.Header) bool {
	for f, t := range c {
		if gets(t, h[f]) != h[f] {
			return false
		}
	}
	return true
}

// one is a header that has bits in all fields, also beyond a field's.
func one() api.Header {
	var h api.Header
	for f := range h {
		h[f] = api.Wide{Hi: 0x8102030405060708 * uint64(f+1), Lo: 0xF1E2D3C4B5A69788 + uint64(f)*0x1111}
	}
	return h
}

// terns has bits of all fields that count, at the ends of both halves and between, and bits of Value that do not.
func terns(turn int) [api.Fields]api.Tern {
	var all [api.Fields]api.Tern
	for f, v := range one() {
		k := (f + turn) % 5
		all[f] = api.Tern{Value: xor(v, at(f*turn%128)), Mask: api.Wide{Hi: 1<<63 | 1 | 0xF0F0<<k, Lo: 1<<63 | 1 | 0xABC<<(3*k)}}
	}
	return all
}

// samples are rewritings, and cubes: of no bits, with Values of which nothing counts, of all bits, of some, and of one bit, on and off.
func samples() [][api.Fields]api.Tern {
	all := [][api.Fields]api.Tern{{}, terns(0), terns(1), terns(3)}
	var loose, full, zeros [api.Fields]api.Tern
	for f, v := range one() {
		loose[f] = api.Tern{Value: v}
		full[f] = api.Tern{Value: v, Mask: whole}
		zeros[f] = api.Tern{Mask: whole}
	}
	all = append(all, loose, full, zeros)
	for _, f := range []int{0, 9, last} {
		for _, i := range ends {
			all = append(all, only(f, whole, at(i)), only(f, xor(whole, at(i)), at(i)))
		}
	}
	return all
}

// only is one field's bits alone; Value may have others, too.
func only(f int, value, mask api.Wide) [api.Fields]api.Tern {
	var all [api.Fields]api.Tern
	all[f] = api.Tern{Value: value, Mask: mask}
	return all
}

func alone(f int, v api.Wide) api.Header {
	var h api.Header
	h[f] = v
	return h
}

func headers() []api.Header {
	all := []api.Header{{}, one()}
	for _, f := range []int{0, 9, last} {
		for _, i := range ends {
			other := one()
			other[f] = xor(other[f], at(i))
			all = append(all, other, alone(f, at(i)))
		}
	}
	return all
}

func TestNone(t *testing.T) { // P9.1
	if got := rewrite.None(); got != (api.Rewrite{}) {
		t.Errorf("None: %x", got)
	}
	for _, h := range headers() {
		if got := rewrite.Apply(rewrite.None(), h); got != h {
			t.Errorf("Apply(None, %x): %x", h, got)
		}
	}
}

func TestApply(t *testing.T) { // P9.1
	for _, r := range samples() {
		for _, h := range headers() {
			if got, want := rewrite.Apply(r, h), apply(r, h); got != want {
				t.Errorf("Apply(%x, %x): %x, want %x", r, h, got, want)
			}
		}
	}
}

func TestApplyBitByBit(t *testing.T) { // P9.1: each bit of each field, on and off; Value has other bits, too
	for f := range api.Fields {
		for i := range 128 {
			bit := at(i)
			var ones api.Header
			for g := range ones {
				ones[g] = whole
			}
			on, off := only(f, whole, bit), only(f, xor(whole, bit), bit)
			if rewrite.Apply(off, api.Header{}) != (api.Header{}) || rewrite.Apply(on, ones) != ones {
				t.Errorf("Apply of bit %d of field %d that is so already", i, f)
			}
			if got := rewrite.Apply(on, api.Header{}); got != alone(f, bit) {
				t.Errorf("Apply of bit %d of field %d, on: %x", i, f, got)
			}
			want := ones
			want[f] = xor(whole, bit)
			if got := rewrite.Apply(off, ones); got != want {
				t.Errorf("Apply of bit %d of field %d, off: %x", i, f, got)
			}
		}
	}
}

func TestSet(t *testing.T) { // P9.1
	numbers := []api.Wide{{}, whole, at(0), at(63), at(64), at(127), {Hi: 0x5555, Lo: 0xAAAA << 40}, {Hi: 6 << 60, Lo: 7}}
	for _, r := range samples() {
		for f := range api.Fields {
			for _, value := range numbers {
				for _, mask := range numbers {
					want := then(r, only(f, value, mask))
					if got := rewrite.Set(r, f, value, mask); got != want {
						t.Fatalf("Set(%x, %d, %x, %x): %x, want %x", r, f, value, mask, got, want)
					}
				}
			}
		}
	}
}

func TestSetOfNoField(t *testing.T) { // P9.1: r's Clean
	for _, r := range samples() {
		for _, f := range none {
			if got := rewrite.Set(r, f, whole, whole); got != clean(r) {
				t.Errorf("Set(%x, %d): %x", r, f, got)
			}
			if got := rewrite.Set(r, f, api.Wide{}, whole); got != clean(r) {
				t.Errorf("Set(%x, %d) to nought: %x", r, f, got)
			}
		}
	}
}

func TestSetOfTheEnds(t *testing.T) { // P9.1: told without a second reckoning
	for _, f := range []int{0, last} {
		for _, i := range ends {
			bit := at(i)
			on, off := only(f, bit, bit), only(f, api.Wide{}, bit)
			if rewrite.Set(api.Rewrite{}, f, whole, bit) != on || rewrite.Set(api.Rewrite{}, f, xor(whole, bit), bit) != off {
				t.Errorf("Set of bit %d of field %d", i, f)
			}
			// The later one of two has it.
			if rewrite.Set(on, f, api.Wide{}, bit) != off || rewrite.Set(off, f, bit, bit) != on {
				t.Errorf("Set of bit %d of field %d that is got otherwise", i, f)
			}
			// Bits that were got, and are not of mask, stay; those that do not count come to nothing.
			was := only(f, whole, xor(whole, bit))
			want := only(f, xor(whole, bit), whole)
			if got := rewrite.Set(was, f, api.Wide{}, bit); got != want {
				t.Errorf("Set of bit %d of field %d beside others: %x", i, f, got)
			}
			if got := rewrite.Set(only(f, whole, api.Wide{}), f, whole, api.Wide{}); got != (api.Rewrite{}) {
				t.Errorf("Set of no bits of field %d: %x", f, got)
			}
		}
	}
	got := rewrite.Set(api.Rewrite{0: {Value: whole, Mask: api.Wide{Lo: 2}}}, last, api.Wide{Hi: 7}, api.Wide{Hi: 5})
	want := api.Rewrite{0: {Value: api.Wide{Lo: 2}, Mask: api.Wide{Lo: 2}}, last: {Value: api.Wide{Hi: 5}, Mask: api.Wide{Hi: 5}}}
	if got != want {
		t.Errorf("Set of the last field, beside the first one: %x", got)
	}
}

func TestThen(t *testing.T) { // P9.1
	for _, a := range samples() {
		for _, b := range samples() {
			if got, want := rewrite.Then(a, b), then(a, b); got != want {
				t.Errorf("Then(%x, %x): %x, want %x", a, b, got, want)
			}
		}
	}
}

func TestThenOfOneBit(t *testing.T) { // P9.1: told without a second reckoning
	for _, f := range []int{0, last} {
		for _, i := range ends {
			bit := at(i)
			// What does not count has the bits of Value on.
			on, off, loose := only(f, whole, bit), only(f, xor(whole, bit), bit), only(f, whole, api.Wide{})
			isOn, isOff := only(f, bit, bit), only(f, api.Wide{}, bit)
			for _, one := range []struct {
				a, b api.Rewrite
				want api.Rewrite
			}{
				{on, on, isOn}, {off, on, isOn}, {on, off, isOff}, {off, off, isOff},
				{on, loose, isOn}, {off, loose, isOff}, {loose, on, isOn}, {loose, off, isOff}, {loose, loose, api.Rewrite{}},
				{on, api.Rewrite{}, isOn}, {api.Rewrite{}, off, isOff},
			} {
				if got := rewrite.Then(one.a, one.b); got != one.want {
					t.Errorf("Then(%x, %x): %x", one.a, one.b, got)
				}
			}
		}
	}
}

func TestClean(t *testing.T) { // P9.1
	for _, r := range samples() {
		if got, want := rewrite.Clean(r), clean(r); got != want {
			t.Errorf("Clean(%x): %x, want %x", r, got, want)
		}
	}
	for f := range api.Fields {
		r := only(f, api.Wide{Hi: 12, Lo: 10}, api.Wide{Hi: 10, Lo: 12})
		if got := rewrite.Clean(r); got != only(f, api.Wide{Hi: 8, Lo: 8}, api.Wide{Hi: 10, Lo: 12}) {
			t.Errorf("Clean of field %d: %x", f, got)
		}
	}
}

func TestBefore(t *testing.T) { // P9.2
	made, refused := 0, 0
	for _, r := range samples() {
		for _, c := range samples() {
			want, can := before(r, c)
			if got, ok := rewrite.Before(r, c); got != want || ok != can {
				t.Errorf("Before(%x, %x): %x, %v, want %x, %v", r, c, got, ok, want, can)
			}
			if can {
				made++
			} else {
				refused++
			}
		}
	}
	if made < 100 || refused < 50 {
		t.Errorf("too few of a kind: %d, %d", made, refused)
	}
}

func TestBeforeBitByBit(t *testing.T) { // P9.2: got as it is, got otherwise, not got
	for f := range api.Fields {
		for i := range 128 {
			bit := at(i)
			on, off := only(f, whole, bit), only(f, xor(whole, bit), bit)
			for _, same := range [][api.Fields]api.Tern{on, off} {
				if got, ok := rewrite.Before(same, same); !ok || got != (api.Cube{}) {
					t.Errorf("Before of bit %d of field %d that is got so: %x, %v", i, f, got, ok)
				}
			}
			for _, pair := range [][2][api.Fields]api.Tern{{on, off}, {off, on}} {
				if got, ok := rewrite.Before(pair[0], pair[1]); ok || got != (api.Cube{}) {
					t.Errorf("Before of bit %d of field %d that is got otherwise: %x, %v", i, f, got, ok)
				}
			}
			// Not got, though Value has it.
			loose := only(f, whole, xor(whole, bit))
			if got, ok := rewrite.Before(loose, off); !ok || got != only(f, api.Wide{}, bit) {
				t.Errorf("Before of bit %d of field %d, off, that is not got: %x, %v", i, f, got, ok)
			}
			if got, ok := rewrite.Before(loose, on); !ok || got != only(f, bit, bit) {
				t.Errorf("Before of bit %d of field %d, on, that is not got: %x, %v", i, f, got, ok)
			}
			// Got, but it does not count in c.
			if got, ok := rewrite.Before(on, only(f, xor(whole, bit), api.Wide{})); !ok || got != (api.Cube{}) {
				t.Errorf("Before of bit %d of field %d that does not count: %x, %v", i, f, got, ok)
			}
		}
	}
}

func TestBeforeIsZeroWithoutAny(t *testing.T) { // P9.2, R2: just one bit of the last field is otherwise
	r, c := api.Rewrite(terns(1)), api.Cube(terns(1))
	if _, ok := rewrite.Before(r, c); !ok {
		t.Error("Before of the same: false")
	}
	for f := range api.Fields {
		for _, i := range ends {
			other := c
			other[f].Value = xor(other[f].Value, at(i))
			if got, ok := rewrite.Before(r, other); ok || got != (api.Cube{}) {
				t.Errorf("Before where bit %d of field %d is otherwise: %x, %v", i, f, got, ok)
			}
		}
	}
}

func TestAfter(t *testing.T) { // P9.2
	for _, r := range samples() {
		for _, c := range samples() {
			if got, want := rewrite.After(r, c), api.Cube(then(c, r)); got != want {
				t.Errorf("After(%x, %x): %x, want %x", r, c, got, want)
			}
		}
	}
}

func TestAfterBitByBit(t *testing.T) { // P9.2: told without a second reckoning
	for f := range api.Fields {
		for _, i := range ends {
			bit := at(i)
			on, off, loose := only(f, whole, bit), only(f, xor(whole, bit), bit), only(f, whole, api.Wide{})
			isOn, isOff := only(f, bit, bit), only(f, api.Wide{}, bit)
			for _, one := range []struct {
				r    api.Rewrite
				c    api.Cube
				want api.Cube
			}{
				{on, on, isOn}, {on, off, isOn}, {off, on, isOff}, {off, off, isOff},
				{on, loose, isOn}, {off, loose, isOff}, {loose, on, isOn}, {loose, off, isOff}, {loose, loose, api.Cube{}},
			} {
				if got := rewrite.After(one.r, one.c); got != one.want {
					t.Errorf("After(%x, %x): %x", one.r, one.c, got)
				}
			}
		}
	}
}

func TestAfterHasWhatIsMade(t *testing.T) { // P9.2
	for _, r := range samples() {
		for _, c := range samples() {
			after := rewrite.After(r, c)
			for _, h := range headers() {
				h = apply(c, h) // one of c's
				if made := rewrite.Apply(r, h); !has(after, made) {
					t.Errorf("After(%x, %x): %x has not %x", r, c, after, made)
				}
			}
		}
	}
}

func TestApplyOfThen(t *testing.T) { // P9.3
	for _, a := range samples() {
		for _, b := range samples() {
			ab := rewrite.Then(a, b)
			for _, h := range headers() {
				if got, want := rewrite.Apply(ab, h), rewrite.Apply(b, rewrite.Apply(a, h)); got != want {
					t.Errorf("Apply of Then(%x, %x): %x, want %x", a, b, got, want)
				}
			}
		}
	}
}

func TestBeforeHasJustThose(t *testing.T) { // P9.3
	for _, r := range samples() {
		for _, c := range samples() {
			b, ok := rewrite.Before(r, c)
			for _, h := range headers() {
				// As it is, and as one of c's.
				for _, h := range []api.Header{h, apply(c, h)} {
					if want := has(c, rewrite.Apply(r, h)); (ok && has(b, h)) != want {
						t.Errorf("Before(%x, %x): %x, %v; c has what is made of %x: %v", r, c, b, ok, h, want)
					}
				}
			}
		}
	}
}

func TestNothingChangedOrKept(t *testing.T) { // R3, R4
	r, other, c, h := api.Rewrite(terns(0)), api.Rewrite(terns(3)), api.Cube(terns(0)), one()
	for range 2 {
		set, both, tidy, made := rewrite.Set(r, last, whole, at(64)), rewrite.Then(r, other), rewrite.Clean(r), rewrite.Apply(r, h)
		past, ok := rewrite.Before(r, c)
		next, nothing := rewrite.After(r, c), rewrite.None()
		wantPast, _ := before(r, c)
		if set != then(r, only(last, whole, at(64))) || both != then(r, other) || tidy != clean(r) || made != apply(r, h) {
			t.Error("what was answered is kept")
		}
		if past != wantPast || !ok || next != api.Cube(then(api.Rewrite(c), r)) || nothing != (api.Rewrite{}) {
			t.Error("what was answered is kept")
		}
		// What is answered is spoiled.
		for f := range api.Fields {
			set[f], both[f], tidy[f], past[f], next[f], nothing[f] = api.Tern{}, api.Tern{}, api.Tern{}, api.Tern{Mask: whole}, api.Tern{}, api.Tern{Mask: whole}
			made[f] = api.Wide{}
		}
		if r != api.Rewrite(terns(0)) || other != api.Rewrite(terns(3)) || c != api.Cube(terns(0)) || h != one() {
			t.Error("what is handed in is changed")
		}
	}
}
