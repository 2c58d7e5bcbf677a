package header_test

import (
	"bytes"
	"math"
	"math/big"
	"slices"
	"testing"

	"weirbox/api"
	"weirbox/header"
)

// The chapter's table, written out anew: what the tests hold the answers against hangs on no layer.
var (
	bitsOf  = [api.Fields]int{32, 64, 48, 48, 16, 13, 3, 6, 2, 8, 32, 32, 16, 16, 16, 16, 8, 8, 16, 32, 32, 128, 128, 20}
	bytesOf = [api.Fields]int{4, 8, 6, 6, 2, 2, 1, 1, 1, 1, 4, 4, 2, 2, 2, 2, 1, 1, 2, 4, 4, 16, 16, 3}
)

// length is how many bytes a header has.
const length = 95

var none = []int{math.MinInt, -1 << 32, -24, -1, 24, 25, 255, 1 << 32, math.MaxInt}

var all = api.Wide{Hi: math.MaxUint64, Lo: math.MaxUint64}

func toBig(a api.Wide) *big.Int {
	n := new(big.Int).SetUint64(a.Hi)
	n.Lsh(n, 64)
	return n.Or(n, new(big.Int).SetUint64(a.Lo))
}

func fromBig(n *big.Int) api.Wide {
	low := new(big.Int).And(n, new(big.Int).SetUint64(math.MaxUint64))
	return api.Wide{Hi: new(big.Int).Rsh(n, 64).Uint64(), Lo: low.Uint64()}
}

// greatest is the greatest number of n bits.
func greatest(n int) api.Wide {
	x := new(big.Int).Lsh(big.NewInt(1), uint(n))
	return fromBig(x.Sub(x, big.NewInt(1)))
}

// bit is the number whose only bit is n.
func bit(n int) api.Wide {
	return fromBig(new(big.Int).Lsh(big.NewInt(1), uint(n)))
}

// full is the header whose fields have all their bits.
func full() api.Header {
	var h api.Header
	for f := range h {
		h[f] = greatest(bitsOf[f])
	}
	return h
}

// mixed is a header with bits here and there, that fits.
func mixed() api.Header {
	var h api.Header
	for f := range h {
		n := toBig(api.Wide{Hi: 0x0102030405060708 * uint64(f+1), Lo: 0xF1E2D3C4B5A69788 + uint64(f)*0x1111})
		h[f] = fromBig(n.And(n, toBig(greatest(bitsOf[f]))))
	}
	return h
}

// beyond is the header whose fields have all 128 bits.
func beyond() api.Header {
	var h api.Header
	for f := range h {
		h[f] = all
	}
	return h
}

func samples() []api.Header {
	return []api.Header{{}, full(), mixed(), beyond()}
}

// spell is what Put is told to answer, by another reckoning.
func spell(h api.Header) []byte {
	var b []byte
	for f := range h {
		spelt := toBig(h[f]).FillBytes(make([]byte, 16))
		b = append(b, spelt[16-bytesOf[f]:]...)
	}
	return b
}

func fits(h api.Header) bool {
	for f := range h {
		if toBig(h[f]).BitLen() > bitsOf[f] {
			return false
		}
	}
	return true
}

func TestGet(t *testing.T) { // P4.1
	for _, h := range samples() {
		for f := range h {
			if got := header.Get(h, f); got != h[f] {
				t.Errorf("Get of field %d: %x, want %x", f, got, h[f])
			}
		}
		for _, f := range none {
			if got := header.Get(h, f); got != (api.Wide{}) {
				t.Errorf("Get of field %d: %x", f, got)
			}
		}
	}
}

func TestSet(t *testing.T) { // P4.1: values beyond a field's bits, too
	for _, h := range samples() {
		for _, v := range []api.Wide{{}, {Lo: 1}, {Hi: 1 << 63}, {Hi: 3, Lo: 5}, all} {
			for f := range h {
				want := h
				want[f] = v
				if got := header.Set(h, f, v); got != want {
					t.Errorf("Set of field %d to %x: %x", f, v, got)
				}
			}
			for _, f := range none {
				if got := header.Set(h, f, v); got != h {
					t.Errorf("Set of field %d to %x: %x", f, v, got)
				}
			}
		}
	}
}

func TestFits(t *testing.T) { // P4.1
	if !header.Fits(api.Header{}) || !header.Fits(full()) || !header.Fits(mixed()) || header.Fits(beyond()) {
		t.Error("zero, full, mixed, beyond:", header.Fits(api.Header{}), header.Fits(full()), header.Fits(mixed()), header.Fits(beyond()))
	}
	for f := range api.Fields {
		for i := range 128 {
			for _, h := range []api.Header{{}, full()} {
				h[f] = fromBig(new(big.Int).Or(toBig(h[f]), toBig(bit(i))))
				if got := header.Fits(h); got != (i < bitsOf[f]) {
					t.Errorf("Fits with bit %d of field %d: %v", i, f, got)
				}
			}
		}
	}
}

func TestClip(t *testing.T) { // P4.1
	for _, h := range []api.Header{{}, full(), mixed()} {
		if got := header.Clip(h); got != h {
			t.Errorf("Clip of one that fits: %x, want %x", got, h)
		}
	}
	if got := header.Clip(beyond()); got != full() {
		t.Errorf("Clip of all bits: %x", got)
	}
	for f := range api.Fields {
		for i := range 128 {
			want := mixed()
			h := mixed()
			h[f] = bit(i)
			want[f] = api.Wide{}
			if i < bitsOf[f] {
				want[f] = bit(i)
			}
			if got := header.Clip(h); got != want {
				t.Errorf("Clip with bit %d of field %d: %x", i, f, got)
			}
		}
	}
}

func TestDiff(t *testing.T) { // P4.1
	for _, h := range samples() {
		if got := header.Diff(h, h); len(got) != 0 {
			t.Errorf("Diff of the same: %v", got)
		}
		for f := range h {
			other := h
			other[f].Hi ^= 1 << 63
			if got := header.Diff(h, other); !slices.Equal(got, []int{f}) {
				t.Errorf("Diff where field %d is otherwise: %v", f, got)
			}
			other = h
			other[f].Lo ^= 1
			other[api.Fields-1-f].Lo ^= 2
			want := []int{min(f, api.Fields-1-f), max(f, api.Fields-1-f)}
			if got := header.Diff(other, h); !slices.Equal(got, want) {
				t.Errorf("Diff where fields %v are otherwise: %v", want, got)
			}
		}
	}
	every := make([]int, api.Fields)
	for f := range every {
		every[f] = f
	}
	if got := header.Diff(api.Header{}, full()); !slices.Equal(got, every) {
		t.Errorf("Diff where all are otherwise: %v", got)
	}
}

func TestPut(t *testing.T) { // P4.2: of those that do not fit, too
	for _, h := range samples() {
		if got := header.Put(h); !bytes.Equal(got, spell(h)) || len(got) != length {
			t.Errorf("Put of %x: %x, want %x", h, got, spell(h))
		}
	}
	h := api.Header{api.InPort: {Lo: 0x01020304}, api.Metadata: {Hi: 9, Lo: 0x05060708090A0B0C}, api.MPLSLabel: {Lo: 0xFFABCDEF}}
	got := header.Put(h)
	if !bytes.Equal(got[:12], []byte{1, 2, 3, 4, 5, 6, 7, 8, 9, 10, 11, 12}) || !bytes.Equal(got[length-3:], []byte{0xAB, 0xCD, 0xEF}) {
		t.Errorf("Put: %x", got)
	}
}

func TestParse(t *testing.T) { // P4.2
	for f := range api.Fields {
		for i := range 8 * bytesOf[f] {
			h := mixed()
			h[f] = bit(i)
			got, e := header.Parse(spell(h))
			if fits(h) && (got != h || e != api.OK) {
				t.Errorf("Parse with bit %d of field %d: %x, %d", i, f, got, e)
			}
			if !fits(h) && (got != api.Header{} || e != api.ErrForm) {
				t.Errorf("Parse with bit %d of field %d, beyond its bits: %x, %d", i, f, got, e)
			}
		}
	}
}

func TestParseOfOtherLengths(t *testing.T) { // P4.2
	long := bytes.Repeat([]byte{1}, 2*length)
	copy(long, spell(mixed()))
	for n := range len(long) + 1 {
		h, e := header.Parse(long[:n])
		if n == length && (h != mixed() || e != api.OK) {
			t.Errorf("Parse of %d bytes: %x, %d", n, h, e)
		}
		if n != length && (h != api.Header{} || e != api.ErrForm) {
			t.Errorf("Parse of %d bytes: %x, %d", n, h, e)
		}
	}
	for _, b := range [][]byte{nil, {}, make([]byte, length-1), make([]byte, length+1), make([]byte, 1<<20)} {
		if h, e := header.Parse(b); h != (api.Header{}) || e != api.ErrForm {
			t.Errorf("Parse of %d zero bytes: %x, %d", len(b), h, e)
		}
	}
}

func TestParseOfPut(t *testing.T) { // P4.3
	for _, h := range samples() {
		h = header.Clip(h)
		if got, e := header.Parse(header.Put(h)); got != h || e != api.OK {
			t.Errorf("Parse of Put of %x: %x, %d", h, got, e)
		}
	}
	for f := range api.Fields {
		for _, v := range []api.Wide{{}, {Lo: 1}, greatest(bitsOf[f]), bit(bitsOf[f] - 1)} {
			h := header.Set(mixed(), f, v)
			if got, e := header.Parse(header.Put(h)); got != h || e != api.OK {
				t.Errorf("Parse of Put with field %d at %x: %x, %d", f, v, got, e)
			}
		}
	}
}

// roomy is b with room behind that is not the callee's.
func roomy(b []byte) (text, whole []byte) {
	whole = append(bytes.Clone(b), bytes.Repeat([]byte{0xEE}, 40)...)
	return whole[:len(b)], whole
}

func TestNothingKeptOrChanged(t *testing.T) { // R3
	wrong := spell(mixed())
	wrong[len(wrong)-3] = 0xFF
	for _, b := range [][]byte{nil, spell(mixed()), wrong, spell(full())[:90], bytes.Repeat([]byte{7}, 100)} {
		text, whole := roomy(b)
		before := bytes.Clone(whole)
		header.Parse(text)
		if !bytes.Equal(whole, before) {
			t.Errorf("Parse changed b's memory: %x", whole)
		}
	}
	h := mixed()
	kept := header.Put(h)
	other := header.Put(h)
	clear(other[:cap(other)])
	if !bytes.Equal(kept, spell(h)) || h != mixed() {
		t.Errorf("Put shares its answers: %x", kept)
	}
	a, b := mixed(), full()
	fields := header.Diff(a, b)
	want := slices.Clone(fields)
	more := header.Diff(a, b)
	clear(more[:cap(more)])
	if !slices.Equal(fields, want) || a != mixed() || b != full() {
		t.Errorf("Diff shares its answers: %v", fields)
	}
}
