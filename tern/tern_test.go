package tern_test

import (
	"math"
	"slices"
	"testing"

	"weirbox/api"
	"weirbox/tern"
)

// ends are the places at the ends of both halves.
var ends = []int{0, 63, 64, 127}

// none are places of which there is no bit.
var none = []int{math.MinInt, -1 << 32, -129, -128, -65, -64, -1, 128, 129, 191, 192, 255, 256, 1 << 32, math.MaxInt}

// free is a bit that does not count.
const free = -1

// plain is a tern bit by bit: 0, 1, or free. What the tests hold the answers against is reckoned with it, and hangs on no layer.
type plain [128]int

func bitOf(a api.Wide, i int) int {
	if i < 64 {
		return int(a.Lo >> i & 1)
	}
	return int(a.Hi >> (i - 64) & 1)
}

func withBit(a api.Wide, i int) api.Wide {
	if i < 64 {
		a.Lo |= 1 << i
	} else {
		a.Hi |= 1 << (i - 64)
	}
	return a
}

func spell(t api.Tern) plain {
	var p plain
	for i := range p {
		p[i] = free
		if bitOf(t.Mask, i) == 1 {
			p[i] = bitOf(t.Value, i)
		}
	}
	return p
}

// clean is the tern without bits that do not count.
func (p plain) clean() api.Tern {
	var t api.Tern
	for i, b := range p {
		if b != free {
			t.Mask = withBit(t.Mask, i)
		}
		if b == 1 {
			t.Value = withBit(t.Value, i)
		}
	}
	return t
}

func (p plain) has(v api.Wide) bool {
	for i, b := range p {
		if b != free && b != bitOf(v, i) {
			return false
		}
	}
	return true
}

func (p plain) within(q plain) bool {
	for i, b := range q {
		if b != free && p[i] != b {
			return false
		}
	}
	return true
}

func (p plain) meet(q plain) (api.Tern, bool) {
	for i, b := range q {
		if b != free && p[i] != free && p[i] != b {
			return api.Tern{}, false
		}
		if b != free {
			p[i] = b
		}
	}
	return p.clean(), true
}

func (p plain) bits(q plain) []int {
	var all []int
	for i := 127; i >= 0; i-- {
		if q[i] != free && p[i] == free {
			all = append(all, i)
		}
	}
	return all
}

// numbers have bits at the ends of both halves, and patterns.
func numbers() []api.Wide {
	all := []api.Wide{
		{}, {Lo: math.MaxUint64}, {Hi: math.MaxUint64}, {Hi: math.MaxUint64, Lo: math.MaxUint64},
		{Hi: 1 << 63, Lo: 1}, {Hi: 1, Lo: 1 << 63}, {Lo: 6}, {Hi: 6},
		{Hi: 0x5555555555555555, Lo: 0xAAAAAAAAAAAAAAAA}, {Hi: 0xFEDCBA9876543210, Lo: 0x0123456789ABCDEF},
	}
	for _, i := range ends {
		all = append(all, withBit(api.Wide{}, i))
	}
	return all
}

// terns are all numbers with all as masks: most have bits of Value that do not count.
func terns() []api.Tern {
	var all []api.Tern
	for _, v := range numbers() {
		for _, m := range numbers() {
			all = append(all, api.Tern{Value: v, Mask: m})
		}
	}
	return all
}

// single is the tern in which bit i alone counts; all other bits of Value are on, and do not.
func single(i, b int) api.Tern {
	t := api.Tern{Mask: withBit(api.Wide{}, i)}
	for j := range 128 {
		if j != i || b == 1 {
			t.Value = withBit(t.Value, j)
		}
	}
	return t
}

func TestClean(t *testing.T) { // P5.1
	for _, a := range terns() {
		if got, want := tern.Clean(a), spell(a).clean(); got != want {
			t.Errorf("Clean(%x): %x, want %x", a, got, want)
		}
	}
	got := tern.Clean(api.Tern{Value: api.Wide{Hi: 12, Lo: 10}, Mask: api.Wide{Hi: 10, Lo: 12}})
	if got != (api.Tern{Value: api.Wide{Hi: 8, Lo: 8}, Mask: api.Wide{Hi: 10, Lo: 12}}) {
		t.Errorf("Clean: %x", got)
	}
	if got := tern.Clean(api.Tern{Value: api.Wide{Hi: math.MaxUint64, Lo: math.MaxUint64}}); got != (api.Tern{}) {
		t.Errorf("Clean where nothing counts: %x", got)
	}
}

func TestHas(t *testing.T) { // P5.1
	for _, a := range terns() {
		for _, v := range numbers() {
			if got, want := tern.Has(a, v), spell(a).has(v); got != want {
				t.Errorf("Has(%x, %x): %v", a, v, got)
			}
		}
	}
}

func TestHasBitByBit(t *testing.T) { // P5.1: only the bits of Mask count
	full := api.Wide{Hi: math.MaxUint64, Lo: math.MaxUint64}
	for i := range 128 {
		bit := withBit(api.Wide{}, i)
		without := api.Wide{Hi: full.Hi ^ bit.Hi, Lo: full.Lo ^ bit.Lo}
		on, off := single(i, 1), single(i, 0)
		if !tern.Has(on, bit) || !tern.Has(on, full) || tern.Has(on, api.Wide{}) || tern.Has(on, without) {
			t.Errorf("Has of bit %d, on", i)
		}
		if tern.Has(off, bit) || tern.Has(off, full) || !tern.Has(off, api.Wide{}) || !tern.Has(off, without) {
			t.Errorf("Has of bit %d, off", i)
		}
		all := api.Tern{Mask: full}
		if tern.Has(all, bit) || tern.Has(api.Tern{Value: full, Mask: full}, without) {
			t.Errorf("Has where bit %d alone is otherwise", i)
		}
	}
	for _, v := range numbers() {
		if !tern.Has(api.Tern{Value: api.Wide{Hi: 1, Lo: 2}}, v) {
			t.Errorf("Has of %x, where nothing counts: false", v)
		}
	}
}

func TestMeet(t *testing.T) { // P5.1
	for _, a := range terns() {
		for _, b := range terns() {
			want, met := spell(a).meet(spell(b))
			if got, ok := tern.Meet(a, b); got != want || ok != met {
				t.Errorf("Meet(%x, %x): %x, %v, want %x, %v", a, b, got, ok, want, met)
			}
		}
	}
}

func TestMeetBitByBit(t *testing.T) { // P5.1
	for i := range 128 {
		if got, ok := tern.Meet(single(i, 1), single(i, 0)); ok || got != (api.Tern{}) {
			t.Errorf("Meet of 1 and 0 in bit %d: %x, %v", i, got, ok)
		}
		bit := withBit(api.Wide{}, i)
		if got, ok := tern.Meet(single(i, 1), single(i, 1)); !ok || got != (api.Tern{Value: bit, Mask: bit}) {
			t.Errorf("Meet of 1 and 1 in bit %d: %x, %v", i, got, ok)
		}
		if got, ok := tern.Meet(single(i, 0), single(i, 0)); !ok || got != (api.Tern{Mask: bit}) {
			t.Errorf("Meet of 0 and 0 in bit %d: %x, %v", i, got, ok)
		}
		// What one has there where nothing of it counts is the other one's to tell.
		j := 127 - i
		if got, ok := tern.Meet(single(i, 0), single(j, 1)); !ok || got != (api.Tern{Value: withBit(api.Wide{}, j), Mask: withBit(bit, j)}) {
			t.Errorf("Meet of 0 in bit %d and 1 in bit %d: %x, %v", i, j, got, ok)
		}
	}
}

func TestWithin(t *testing.T) { // P5.1
	for _, a := range terns() {
		for _, b := range terns() {
			if got, want := tern.Within(a, b), spell(a).within(spell(b)); got != want {
				t.Errorf("Within(%x, %x): %v", a, b, got)
			}
		}
	}
}

func TestWithinBitByBit(t *testing.T) { // P5.1
	nothing := api.Tern{Value: api.Wide{Hi: 7, Lo: 7}}
	for i := range 128 {
		for b := range 2 {
			one := single(i, b)
			if !tern.Within(one, one) || !tern.Within(one, nothing) || tern.Within(nothing, one) {
				t.Errorf("Within of bit %d", i)
			}
			if tern.Within(one, single(i, 1-b)) {
				t.Errorf("Within where bit %d is otherwise: true", i)
			}
			// one's Value has that bit already, but there it does not count.
			more := tern.Fix(one, 127-i, true)
			if !tern.Within(more, one) || tern.Within(one, more) {
				t.Errorf("Within of bits %d and %d, and %d", i, 127-i, i)
			}
		}
	}
}

func TestBits(t *testing.T) { // P5.1
	for _, a := range terns() {
		for _, b := range terns() {
			if got, want := tern.Bits(a, b), spell(a).bits(spell(b)); !slices.Equal(got, want) {
				t.Errorf("Bits(%x, %x): %v, want %v", a, b, got, want)
			}
		}
	}
	edges := api.Tern{Mask: api.Wide{Hi: 1<<63 | 1, Lo: 1<<63 | 1}}
	if got := tern.Bits(api.Tern{}, edges); !slices.Equal(got, []int{127, 64, 63, 0}) {
		t.Errorf("Bits of the ends: %v", got)
	}
	if got := tern.Bits(single(64, 1), edges); !slices.Equal(got, []int{127, 63, 0}) {
		t.Errorf("Bits of the ends without 64: %v", got)
	}
	if got := tern.Bits(edges, edges); len(got) != 0 {
		t.Errorf("Bits of the same: %v", got)
	}
	every := tern.Bits(api.Tern{}, api.Tern{Mask: api.Wide{Hi: math.MaxUint64, Lo: math.MaxUint64}})
	if len(every) != 128 || every[0] != 127 || every[127] != 0 {
		t.Errorf("Bits of all: %v", every)
	}
}

func TestFix(t *testing.T) { // P5.1
	for _, a := range terns() {
		for i := range 128 {
			for b := range 2 {
				p := spell(a)
				p[i] = b
				if got, want := tern.Fix(a, i, b == 1), p.clean(); got != want {
					t.Errorf("Fix(%x, %d, %d): %x, want %x", a, i, b, got, want)
				}
			}
		}
		for _, i := range none {
			for _, on := range []bool{false, true} {
				if got, want := tern.Fix(a, i, on), spell(a).clean(); got != want {
					t.Errorf("Fix(%x, %d, %v): %x, want %x", a, i, on, got, want)
				}
			}
		}
	}
}

func TestFixOfTheEnds(t *testing.T) { // P5.1: told without a second reckoning
	bits := map[int]api.Wide{0: {Lo: 1}, 63: {Lo: 1 << 63}, 64: {Hi: 1}, 127: {Hi: 1 << 63}}
	for i, bit := range bits {
		if got := tern.Fix(api.Tern{}, i, true); got != (api.Tern{Value: bit, Mask: bit}) {
			t.Errorf("Fix of bit %d, on: %x", i, got)
		}
		if got := tern.Fix(api.Tern{Value: bit}, i, false); got != (api.Tern{Mask: bit}) {
			t.Errorf("Fix of bit %d, off, where it did not count: %x", i, got)
		}
		if got := tern.Fix(api.Tern{Value: bit, Mask: bit}, i, false); got != (api.Tern{Mask: bit}) {
			t.Errorf("Fix of bit %d, off, where it was on: %x", i, got)
		}
		if got := tern.Fix(api.Tern{Mask: bit}, i, true); got != (api.Tern{Value: bit, Mask: bit}) {
			t.Errorf("Fix of bit %d, on, where it was off: %x", i, got)
		}
	}
}

func TestMeetIsInBoth(t *testing.T) { // P5.2
	for _, a := range terns() {
		for _, b := range terns() {
			m, ok := tern.Meet(a, b)
			if ok && (!tern.Within(m, a) || !tern.Within(m, b)) {
				t.Errorf("Meet(%x, %x) is not within both: %x", a, b, m)
			}
			for _, v := range append(numbers(), m.Value, a.Value, b.Value) {
				both := tern.Has(a, v) && tern.Has(b, v)
				if both != (ok && tern.Has(m, v)) {
					t.Errorf("Meet(%x, %x): %x, %v; %x is in both: %v", a, b, m, ok, v, both)
				}
			}
		}
	}
}

func TestNothingSharedOrKept(t *testing.T) { // R3, R4
	a, b := single(5, 1), api.Tern{Value: api.Wide{Hi: 9, Lo: 9}, Mask: api.Wide{Hi: 1<<63 | 1, Lo: 1<<63 | 33}}
	wasA, wasB := a, b
	kept := tern.Bits(a, b)
	for range 3 {
		other := tern.Bits(a, b)
		clear(other[:cap(other)])
	}
	if want := []int{127, 64, 63, 0}; !slices.Equal(kept, want) || !slices.Equal(tern.Bits(a, b), want) {
		t.Errorf("Bits shares its answers: %v, %v", kept, tern.Bits(a, b))
	}
	tern.Meet(a, b)
	tern.Fix(a, 0, false)
	tern.Clean(b)
	if a != wasA || b != wasB {
		t.Errorf("changed: %x, %x", a, b)
	}
}
