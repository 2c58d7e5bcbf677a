package num_test

import (
	"bytes"
	"math"
	"testing"

	"weirbox/api"
	"weirbox/num"
)

// top is the greatest number of each size.
var top = map[int]int{1: 255, 2: 65535, 4: 4294967295}

var wrongSizes = []int{math.MinInt, -4, -2, -1, 0, 3, 5, 6, 7, 8, 16, 64, math.MaxInt}

// edges are numbers at, and beside, the ends of every size.
var edges = []int{
	math.MinInt, math.MinInt + 1, -1 << 32, -65536, -256, -255, -1,
	0, 1, 127, 128, 254, 255, 256, 257, 258,
	32767, 32768, 65534, 65535, 65536, 65537,
	1<<24 - 1, 1 << 24, 1<<31 - 1, 1 << 31, 1<<32 - 1, 1 << 32, 1<<32 + 1,
	1 << 40, math.MaxInt - 1, math.MaxInt,
}

// roomy is text with room behind that is not the callee's.
func roomy(text string) (b, all []byte) {
	all = bytes.Repeat([]byte{0xEE}, len(text)+24)
	copy(all, text)
	return all[:len(text)], all
}

// spoil writes to all that a caller may write to: what was answered, and its spare room.
func spoil(b []byte) {
	b = b[:cap(b)]
	for i := range b {
		b[i] = 0x55
	}
}

func TestRight(t *testing.T) { // P1.1
	for size, most := range top {
		for _, n := range edges {
			if got, want := num.Right(n, size), n >= 0 && n <= most; got != want {
				t.Errorf("Right(%d, %d): %v, want %v", n, size, got, want)
			}
		}
	}
	for _, size := range wrongSizes {
		for _, n := range edges {
			if num.Right(n, size) {
				t.Errorf("Right(%d, %d): true", n, size)
			}
		}
	}
}

func TestPut(t *testing.T) { // P1.1
	tests := []struct {
		b       []byte
		n, size int
		want    []byte
	}{
		{nil, 258, 2, []byte{1, 2}},
		{[]byte{}, 258, 2, []byte{1, 2}},
		{[]byte{9}, 258, 2, []byte{9, 1, 2}},
		{[]byte{9, 8}, 0, 1, []byte{9, 8, 0}},
		{[]byte{9, 8}, 255, 1, []byte{9, 8, 255}},
		{nil, 0, 2, []byte{0, 0}},
		{nil, 65535, 2, []byte{255, 255}},
		{nil, 0, 4, []byte{0, 0, 0, 0}},
		{nil, 0x01020304, 4, []byte{1, 2, 3, 4}},
		{[]byte{7}, 0xFFFFFFFD, 4, []byte{7, 255, 255, 255, 253}},
		{nil, 4294967295, 4, []byte{255, 255, 255, 255}},
	}
	for _, x := range tests {
		if got := num.Put(x.b, x.n, x.size); !bytes.Equal(got, x.want) {
			t.Errorf("Put(%v, %d, %d): %v, want %v", x.b, x.n, x.size, got, x.want)
		}
	}
}

func TestPutWrong(t *testing.T) { // P1.1: b alone, unless Right
	sizes := append([]int{1, 2, 4}, wrongSizes...)
	for _, b := range [][]byte{nil, {}, {9}, {1, 2, 3}} {
		for _, size := range sizes {
			for _, n := range edges {
				got := num.Put(b, n, size)
				if !num.Right(n, size) && !bytes.Equal(got, b) {
					t.Errorf("Put(%v, %d, %d): %v, want b alone", b, n, size, got)
				}
				if num.Right(n, size) && (len(got) != len(b)+size || !bytes.HasPrefix(got, b)) {
					t.Errorf("Put(%v, %d, %d): %v, want b and %d bytes", b, n, size, got, size)
				}
			}
		}
	}
}

func TestGet(t *testing.T) { // P1.1
	b := []byte{0, 0, 1, 0, 7, 255, 255, 255, 255}
	tests := []struct {
		b        []byte
		at, size int
		n        int
		e        api.Errno
	}{
		{b, 0, 1, 0, api.OK},
		{b, 4, 1, 7, api.OK},
		{b, 8, 1, 255, api.OK},
		{b, 1, 2, 1, api.OK},
		{b, 2, 2, 256, api.OK},
		{b, 7, 2, 65535, api.OK},
		{b, 0, 4, 256, api.OK},
		{b, 1, 4, 65543, api.OK},
		{b, 5, 4, 4294967295, api.OK},
		{[]byte{128, 0, 0, 0}, 0, 4, 1 << 31, api.OK},

		{b, 9, 1, 0, api.ErrShort},
		{b, 8, 2, 0, api.ErrShort},
		{b, 6, 4, 0, api.ErrShort},
		{b, 8, 4, 0, api.ErrShort},
		{b, 10, 1, 0, api.ErrShort},
		{b, math.MaxInt, 1, 0, api.ErrShort},
		{b, math.MaxInt, 4, 0, api.ErrShort},
		{b, math.MaxInt - 1, 2, 0, api.ErrShort},
		{b, math.MaxInt - 3, 4, 0, api.ErrShort},
		{nil, 0, 1, 0, api.ErrShort},
		{[]byte{}, 0, 4, 0, api.ErrShort},
		{[]byte{1, 2, 3}, 0, 4, 0, api.ErrShort},

		{b, -1, 1, 0, api.ErrArg},
		{b, -4, 4, 0, api.ErrArg},
		{b, math.MinInt, 2, 0, api.ErrArg},
		{nil, -1, 1, 0, api.ErrArg},
	}
	for _, x := range tests {
		if n, e := num.Get(x.b, x.at, x.size); n != x.n || e != x.e {
			t.Errorf("Get(%v, %d, %d): %d, %d, want %d, %d", x.b, x.at, x.size, n, e, x.n, x.e)
		}
	}
}

func TestGetWrongSize(t *testing.T) { // P1.1: of two errors ErrArg is named first
	for _, size := range wrongSizes {
		for _, at := range []int{math.MinInt, -1, 0, 1, 4, 5, math.MaxInt} {
			for _, b := range [][]byte{nil, {1}, {1, 2, 3, 4}} {
				if n, e := num.Get(b, at, size); n != 0 || e != api.ErrArg {
					t.Errorf("Get(%v, %d, %d): %d, %d, want 0, ErrArg", b, at, size, n, e)
				}
			}
		}
	}
}

func TestGetSpareRoom(t *testing.T) { // P1.1: bytes behind the end are none of b's
	b, _ := roomy("abc")
	if n, e := num.Get(b, 0, 4); n != 0 || e != api.ErrShort {
		t.Errorf("Get over the end: %d, %d", n, e)
	}
	if n, e := num.Get(b, 3, 1); n != 0 || e != api.ErrShort {
		t.Errorf("Get behind the end: %d, %d", n, e)
	}
}

func TestGetOfPut(t *testing.T) { // P1.2
	check := func(before []byte, n, size int) {
		b := append(num.Put(before, n, size), 0xAA)
		if got, e := num.Get(b, len(before), size); got != n || e != api.OK {
			t.Errorf("Get of Put(%v, %d, %d): %d, %d", before, n, size, got, e)
		}
	}
	for n := range 65536 {
		check(nil, n, 2)
		check([]byte{9, 9, 9}, n<<16|n, 4)
		if n < 256 {
			check([]byte{9}, n, 1)
		}
	}
	for size := range top {
		for _, n := range edges {
			if num.Right(n, size) {
				check([]byte{1, 2}, n, size)
			}
		}
	}
}

func TestNothingKeptOrChanged(t *testing.T) { // R3
	for _, x := range []struct{ n, size int }{{7, 1}, {258, 2}, {1 << 24, 4}, {-1, 1}, {256, 1}, {0, 3}} {
		for _, text := range []string{"", "a", "weir"} {
			b, all := roomy(text)
			before := bytes.Clone(all)
			first := num.Put(b, x.n, x.size)
			want := bytes.Clone(first)
			if !bytes.Equal(all, before) {
				t.Errorf("Put(%q, %d, %d) changed b's memory: %v", text, x.n, x.size, all)
			}
			second := num.Put(b, x.n, x.size)
			spoil(second)
			if !bytes.Equal(all, before) {
				t.Errorf("Put(%q, %d, %d) shares b's memory: %v", text, x.n, x.size, all)
			}
			spoil(all)
			if !bytes.Equal(first, want) {
				t.Errorf("Put(%q, %d, %d) shares its answer: %v, want %v", text, x.n, x.size, first, want)
			}
		}
	}
	b, all := roomy("weirbox")
	before := bytes.Clone(all)
	for _, size := range []int{1, 2, 4} {
		num.Get(b, 1, size)
		num.Get(b, 6, size)
	}
	if !bytes.Equal(all, before) {
		t.Errorf("Get changed b's memory: %v", all)
	}
}
