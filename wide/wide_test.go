package wide_test

import (
	"bytes"
	"math"
	"math/big"
	"testing"

	"weirbox/api"
	"weirbox/wide"
)

// edges are bits, and sizes, at and beside the ends, and far beyond.
var edges = []int{
	math.MinInt, math.MinInt + 1, -129, -128, -65, -64, -1,
	0, 1, 2, 7, 8, 15, 16, 17, 31, 32, 62, 63, 64, 65, 126, 127, 128, 129, 191, 192,
	1 << 31, 1 << 32, math.MaxInt - 1, math.MaxInt,
}

// samples are numbers with bits at the ends of both halves, and patterns.
var samples = []api.Wide{
	{},
	{Lo: 1}, {Lo: 1 << 63}, {Hi: 1}, {Hi: 1 << 63},
	{Lo: math.MaxUint64}, {Hi: math.MaxUint64}, {Hi: math.MaxUint64, Lo: math.MaxUint64},
	{Hi: 1, Lo: 6}, {Hi: 1 << 63, Lo: 1},
	{Hi: 0x0102030405060708, Lo: 0x090A0B0C0D0E0F10},
	{Hi: 0x5555555555555555, Lo: 0xAAAAAAAAAAAAAAAA},
	{Hi: 0xAAAAAAAAAAAAAAAA, Lo: 0xAAAAAAAAAAAAAAAA},
	{Hi: 0xFEDCBA9876543210, Lo: 0x0123456789ABCDEF},
}

func toBig(a api.Wide) *big.Int {
	n := new(big.Int).SetUint64(a.Hi)
	n.Lsh(n, 64)
	return n.Or(n, new(big.Int).SetUint64(a.Lo))
}

func bigLow(n int) *big.Int {
	x := new(big.Int).Lsh(big.NewInt(1), uint(n))
	return x.Sub(x, big.NewInt(1))
}

// roomy is text with room behind that is not the callee's.
func roomy(text string) (b, all []byte) {
	all = bytes.Repeat([]byte{0xEE}, len(text)+40)
	copy(all, text)
	return all[:len(text)], all
}

// spoil writes to all that a caller may write to: what was answered, and its spare room.
func spoil(b []byte) {
	b = b[:cap(b)]
	for i := range b {
		b[i] = 0x55
	}
}

func TestBitByBit(t *testing.T) { // P2.1
	for _, a := range samples {
		for _, b := range samples {
			calls := []struct {
				name string
				got  api.Wide
				want *big.Int
			}{
				{"And", wide.And(a, b), new(big.Int).And(toBig(a), toBig(b))},
				{"Or", wide.Or(a, b), new(big.Int).Or(toBig(a), toBig(b))},
				{"Xor", wide.Xor(a, b), new(big.Int).Xor(toBig(a), toBig(b))},
				{"Less", wide.Less(a, b), new(big.Int).AndNot(toBig(a), toBig(b))},
			}
			for _, c := range calls {
				if toBig(c.got).Cmp(c.want) != 0 {
					t.Errorf("%s(%x, %x): %x, want %x", c.name, a, b, c.got, c.want)
				}
			}
		}
	}
}

func TestBitByBitPlain(t *testing.T) { // P2.1: one that is told without a second reckoning
	a, b := api.Wide{Hi: 12, Lo: 10}, api.Wide{Hi: 10, Lo: 12}
	if got := wide.And(a, b); got != (api.Wide{Hi: 8, Lo: 8}) {
		t.Error("And", got)
	}
	if got := wide.Or(a, b); got != (api.Wide{Hi: 14, Lo: 14}) {
		t.Error("Or", got)
	}
	if got := wide.Xor(a, b); got != (api.Wide{Hi: 6, Lo: 6}) {
		t.Error("Xor", got)
	}
	if got := wide.Less(a, b); got != (api.Wide{Hi: 4, Lo: 2}) {
		t.Error("Less", got)
	}
}

func TestZero(t *testing.T) { // P2.1
	if !wide.Zero(api.Wide{}) {
		t.Error("Zero of none: false")
	}
	for i := range 64 {
		low, high := api.Wide{Lo: uint64(1) << i}, api.Wide{Hi: uint64(1) << i}
		if wide.Zero(low) || wide.Zero(high) {
			t.Errorf("Zero of bit %d, or of bit %d: true", i, 64+i)
		}
	}
}

func TestLow(t *testing.T) { // P2.1
	if got := wide.Low(4); got != (api.Wide{Lo: 15}) {
		t.Errorf("Low(4): %x", got)
	}
	for n := -3; n <= 131; n++ {
		if want := bigLow(min(max(n, 0), 128)); toBig(wide.Low(n)).Cmp(want) != 0 {
			t.Errorf("Low(%d): %x, want %x", n, wide.Low(n), want)
		}
	}
	all := api.Wide{Hi: math.MaxUint64, Lo: math.MaxUint64}
	for _, n := range edges {
		if n <= 0 && wide.Low(n) != (api.Wide{}) || n >= 128 && wide.Low(n) != all {
			t.Errorf("Low(%d): %x", n, wide.Low(n))
		}
	}
}

func TestBit(t *testing.T) { // P2.1
	plain := map[int]api.Wide{0: {Lo: 1}, 63: {Lo: 1 << 63}, 64: {Hi: 1}, 127: {Hi: 1 << 63}}
	for i, want := range plain {
		if got := wide.Bit(i); got != want {
			t.Errorf("Bit(%d): %x, want %x", i, got, want)
		}
	}
	for i := range 128 {
		if want := new(big.Int).Lsh(big.NewInt(1), uint(i)); toBig(wide.Bit(i)).Cmp(want) != 0 {
			t.Errorf("Bit(%d): %x", i, wide.Bit(i))
		}
	}
	for _, i := range edges {
		if got := wide.Bit(i); (i < 0 || i > 127) && got != (api.Wide{}) {
			t.Errorf("Bit(%d): %x, want none", i, got)
		}
	}
}

func TestMany(t *testing.T) { // P2.1
	for n := range 129 {
		if got := wide.Many(wide.Low(n)); got != n {
			t.Errorf("Many(Low(%d)): %d", n, got)
		}
	}
	for _, a := range samples {
		want := 0
		for i := range 128 {
			want += int(toBig(a).Bit(i))
		}
		if got := wide.Many(a); got != want {
			t.Errorf("Many(%x): %d, want %d", a, got, want)
		}
	}
}

func TestHas(t *testing.T) { // P2.1
	for _, a := range samples {
		for i := range 128 {
			if got, want := wide.Has(a, i), toBig(a).Bit(i) == 1; got != want {
				t.Errorf("Has(%x, %d): %v", a, i, got)
			}
		}
		for _, i := range edges {
			if (i < 0 || i > 127) && wide.Has(a, i) {
				t.Errorf("Has(%x, %d): true", a, i)
			}
		}
	}
}

func TestPut(t *testing.T) { // P2.2
	for _, a := range samples {
		var full [16]byte
		toBig(a).FillBytes(full[:])
		for _, b := range [][]byte{nil, {}, {9}, {1, 2, 3}} {
			for _, size := range append([]int{3, 4, 5, 6, 9, 10, 11, 12, 13, 14}, edges...) {
				held := min(max(size, 0), 16)
				want := append(bytes.Clone(b), full[16-held:]...)
				if got := wide.Put(b, a, size); !bytes.Equal(got, want) {
					t.Errorf("Put(%v, %x, %d): %v, want %v", b, a, size, got, want)
				}
			}
		}
	}
}

func TestPutPlain(t *testing.T) { // P2.2
	a := api.Wide{Hi: 0x0102030405060708, Lo: 0x090A0B0C0D0E0F10}
	if got := wide.Put([]byte{99}, a, 3); !bytes.Equal(got, []byte{99, 14, 15, 16}) {
		t.Error("Put of 3", got)
	}
	if got := wide.Put(nil, a, 17); !bytes.Equal(got, []byte{1, 2, 3, 4, 5, 6, 7, 8, 9, 10, 11, 12, 13, 14, 15, 16}) {
		t.Error("Put of 17", got)
	}
	if got := wide.Put([]byte{99}, a, -1); !bytes.Equal(got, []byte{99}) {
		t.Error("Put of -1", got)
	}
}

func TestGet(t *testing.T) { // P2.2
	b := []byte{1, 2, 3, 4, 5, 6, 7, 8, 9, 10, 11, 12, 13, 14, 15, 16, 17, 18}
	for length := range len(b) + 1 {
		for _, size := range append([]int{3, 4, 5, 6, 9, 10, 11, 12, 13, 14, 18}, edges...) {
			got, ok := wide.Get(b[:length], size)
			if size < 0 || size > 16 || size > length {
				if ok || got != (api.Wide{}) {
					t.Errorf("Get of %d bytes, %d: %x, %v, want zero, false", length, size, got, ok)
				}
				continue
			}
			if want := new(big.Int).SetBytes(b[:size]); !ok || toBig(got).Cmp(want) != 0 {
				t.Errorf("Get of %d bytes, %d: %x, %v, want %x", length, size, got, ok, want)
			}
		}
	}
}

func TestGetPlain(t *testing.T) { // P2.2
	tests := []struct {
		b    []byte
		size int
		want api.Wide
		ok   bool
	}{
		{nil, 0, api.Wide{}, true},
		{[]byte{}, 0, api.Wide{}, true},
		{[]byte{7}, 0, api.Wide{}, true},
		{[]byte{7, 8}, 1, api.Wide{Lo: 7}, true},
		{[]byte{1, 2, 3}, 2, api.Wide{Lo: 258}, true},
		{[]byte{255, 0, 0, 0, 0, 0, 0, 0}, 8, api.Wide{Lo: 0xFF << 56}, true},
		{[]byte{255, 0, 0, 0, 0, 0, 0, 0, 6}, 9, api.Wide{Hi: 255, Lo: 6}, true},
		{bytes.Repeat([]byte{255}, 16), 16, api.Wide{Hi: math.MaxUint64, Lo: math.MaxUint64}, true},
		{bytes.Repeat([]byte{255}, 17), 17, api.Wide{}, false},
		{nil, 1, api.Wide{}, false},
		{[]byte{7}, 2, api.Wide{}, false},
		{[]byte{7}, -1, api.Wide{}, false},
		{bytes.Repeat([]byte{255}, 15), 16, api.Wide{}, false},
	}
	for _, x := range tests {
		if got, ok := wide.Get(x.b, x.size); got != x.want || ok != x.ok {
			t.Errorf("Get(%v, %d): %x, %v, want %x, %v", x.b, x.size, got, ok, x.want, x.ok)
		}
	}
}

func TestGetSpareRoom(t *testing.T) { // P2.2: bytes behind the end are none of b's
	b, _ := roomy("abc")
	if got, ok := wide.Get(b, 4); ok || got != (api.Wide{}) {
		t.Errorf("Get over the end: %x, %v", got, ok)
	}
}

func TestGetOfPut(t *testing.T) { // P2.3
	for _, a := range samples {
		for size := range 17 {
			got, ok := wide.Get(append(wide.Put(nil, a, size), 0xAA), size)
			if want := wide.And(a, wide.Low(8*size)); !ok || got != want {
				t.Errorf("Get of Put(nil, %x, %d): %x, %v, want %x", a, size, got, ok, want)
			}
			if wide.Zero(wide.Less(a, wide.Low(8*size))) && got != a {
				t.Errorf("Get of Put(nil, %x, %d): %x, want the number", a, size, got)
			}
		}
	}
}

func TestNothingKeptOrChanged(t *testing.T) { // R3
	a := api.Wide{Hi: 0x0102030405060708, Lo: 0x090A0B0C0D0E0F10}
	for _, size := range []int{-1, 0, 1, 8, 9, 16, 17} {
		for _, text := range []string{"", "a", "weir"} {
			b, all := roomy(text)
			before := bytes.Clone(all)
			first := wide.Put(b, a, size)
			want := bytes.Clone(first)
			if !bytes.Equal(all, before) {
				t.Errorf("Put(%q, a, %d) changed b's memory: %v", text, size, all)
			}
			second := wide.Put(b, a, size)
			spoil(second)
			if !bytes.Equal(all, before) {
				t.Errorf("Put(%q, a, %d) shares b's memory: %v", text, size, all)
			}
			spoil(all)
			if !bytes.Equal(first, want) {
				t.Errorf("Put(%q, a, %d) shares its answer: %v, want %v", text, size, first, want)
			}
		}
	}
	b, all := roomy("weirbox and more than 16")
	before := bytes.Clone(all)
	for size := range 17 {
		wide.Get(b, size)
	}
	if !bytes.Equal(all, before) {
		t.Errorf("Get changed b's memory: %v", all)
	}
}
