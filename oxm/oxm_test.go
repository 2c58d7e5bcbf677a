package oxm_test

import (
	"bytes"
	"math"
	"slices"
	"testing"

	"weirbox/api"
	"weirbox/oxm"
)

// The fields' table, written out anew: what the tests hold the answers against hangs on no layer.
var (
	idOf    = [api.Fields]int{0, 2, 3, 4, 5, 6, 7, 8, 9, 10, 11, 12, 13, 14, 15, 16, 19, 20, 21, 22, 23, 26, 27, 34}
	bitsOf  = [api.Fields]int{32, 64, 48, 48, 16, 13, 3, 6, 2, 8, 32, 32, 16, 16, 16, 16, 8, 8, 16, 32, 32, 128, 128, 20}
	bytesOf = [api.Fields]int{4, 8, 6, 6, 2, 2, 1, 1, 1, 1, 4, 4, 2, 2, 2, 2, 1, 1, 2, 4, 4, 16, 16, 3}
	masksOf = [api.Fields]bool{1: true, 2: true, 3: true, 5: true, 10: true, 11: true, 19: true, 20: true, 21: true, 22: true}
)

// none are fields that are none.
var none = []int{math.MinInt, -1 << 32, -24, -1, 24, 25, 34, 48, 255, 256, 1 << 32, math.MaxInt}

var whole = api.Wide{Hi: math.MaxUint64, Lo: math.MaxUint64}

func at(i int) api.Wide {
	if i < 64 {
		return api.Wide{Lo: 1 << i}
	}
	return api.Wide{Hi: 1 << (i - 64)}
}

func xor(a, b api.Wide) api.Wide { return api.Wide{Hi: a.Hi ^ b.Hi, Lo: a.Lo ^ b.Lo} }
func and(a, b api.Wide) api.Wide { return api.Wide{Hi: a.Hi & b.Hi, Lo: a.Lo & b.Lo} }

// low is the n lowest bits.
func low(n int) api.Wide {
	var a api.Wide
	for i := range n {
		a = xor(a, at(i))
	}
	return a
}

// spell is the size lowest bytes of a, the highest first.
func spell(a api.Wide, size int) []byte {
	var b []byte
	for k := size - 1; k >= 0; k-- {
		half := a.Lo
		if k >= 8 {
			half = a.Hi
		}
		b = append(b, byte(half>>(8*(k%8))))
	}
	return b
}

// bytesFor is o's bytes by the chapter's words, whether it is right or not.
func bytesFor(o api.Oxm) []byte {
	size := bytesOf[o.Field]
	if !o.Masked {
		return append([]byte{0x80, 0, byte(2 * idOf[o.Field]), byte(size)}, spell(o.Value, size)...)
	}
	b := append([]byte{0x80, 0, byte(2*idOf[o.Field] + 1), byte(2 * size)}, spell(o.Value, size)...)
	return append(b, spell(o.Mask, size)...)
}

// rights are Oxms that may be: of each field, with no bits, each bit, all bits, some; masked and not.
func rights() []api.Oxm {
	var all []api.Oxm
	for f, bits := range bitsOf {
		some := and(api.Wide{Hi: 0x8102030405060708, Lo: 0xF1E2D3C4B5A69789}, low(bits))
		for _, v := range []api.Wide{{}, some, low(bits)} {
			all = append(all, api.Oxm{Field: f, Value: v})
			if masksOf[f] {
				all = append(all, api.Oxm{Field: f, Masked: true, Value: and(v, some), Mask: some}, api.Oxm{Field: f, Masked: true, Value: v, Mask: low(bits)})
			}
		}
		for i := range bits {
			all = append(all, api.Oxm{Field: f, Value: at(i)})
			if masksOf[f] {
				all = append(all, api.Oxm{Field: f, Masked: true, Value: at(i), Mask: at(i)}, api.Oxm{Field: f, Masked: true, Mask: at(i)})
			}
		}
	}
	return all
}

// wrongs are Oxms that may not be.
func wrongs() []api.Oxm {
	var all []api.Oxm
	for _, f := range none {
		all = append(all, api.Oxm{Field: f}, api.Oxm{Field: f, Value: at(0)}, api.Oxm{Field: f, Masked: true, Mask: at(0)}, api.Oxm{Field: f, Masked: true})
	}
	for f, bits := range bitsOf {
		full := low(bits)
		all = append(all,
			api.Oxm{Field: f, Masked: true},                            // a mask of no bits
			api.Oxm{Field: f, Masked: true, Value: at(0)},              // and a value
			api.Oxm{Field: f, Masked: true, Value: at(0), Mask: at(1)}, // beside the mask
			api.Oxm{Field: f, Masked: true, Value: full, Mask: xor(full, at(bits-1))},
			api.Oxm{Field: f, Masked: true, Value: full, Mask: xor(full, at(0))},
		)
		for i := range 128 {
			all = append(all, api.Oxm{Field: f, Mask: at(i)}, api.Oxm{Field: f, Value: at(0), Mask: at(i)})
			if !masksOf[f] {
				all = append(all, api.Oxm{Field: f, Masked: true, Mask: at(i)}, api.Oxm{Field: f, Masked: true, Value: at(i), Mask: at(i)})
			}
		}
		for i := bits; i < 128; i++ {
			all = append(all,
				api.Oxm{Field: f, Value: at(i)},
				api.Oxm{Field: f, Value: xor(full, at(i))},
				api.Oxm{Field: f, Masked: true, Mask: at(i)},
				api.Oxm{Field: f, Masked: true, Mask: xor(full, at(i))},
				api.Oxm{Field: f, Masked: true, Value: at(i), Mask: full},
				api.Oxm{Field: f, Masked: true, Value: at(i), Mask: xor(full, at(i))},
			)
		}
	}
	return all
}

func TestRight(t *testing.T) { // P10.1
	for _, o := range rights() {
		if !oxm.Right(o) {
			t.Errorf("Right(%v): false", o)
		}
	}
	for _, o := range wrongs() {
		if oxm.Right(o) {
			t.Errorf("Right(%v): true", o)
		}
	}
}

func TestEncode(t *testing.T) { // P10.1
	for _, o := range rights() {
		if b, e := oxm.Encode(o); e != api.OK || !bytes.Equal(b, bytesFor(o)) {
			t.Errorf("Encode(%v): %x, %d, want %x", o, b, e, bytesFor(o))
		}
	}
	for _, o := range wrongs() {
		if b, e := oxm.Encode(o); e != api.ErrArg || len(b) != 0 {
			t.Errorf("Encode(%v): %x, %d", o, b, e)
		}
	}
}

// spelt are Oxms with their bytes, told without a second reckoning.
var spelt = []struct {
	o api.Oxm
	b []byte
}{
	{api.Oxm{Field: api.InPort, Value: api.Wide{Lo: 1}}, []byte{0x80, 0, 0, 4, 0, 0, 0, 1}},
	{api.Oxm{Field: api.Metadata, Value: api.Wide{Lo: 0x0102030405060708}}, []byte{0x80, 0, 4, 8, 1, 2, 3, 4, 5, 6, 7, 8}},
	{api.Oxm{Field: api.Metadata, Masked: true, Value: api.Wide{Lo: 1 << 63}, Mask: api.Wide{Lo: 1<<63 | 1}}, []byte{0x80, 0, 5, 16, 0x80, 0, 0, 0, 0, 0, 0, 0, 0x80, 0, 0, 0, 0, 0, 0, 1}},
	{api.Oxm{Field: api.EthDst, Masked: true, Value: api.Wide{Lo: 0x010000000000}, Mask: api.Wide{Lo: 0x010000000000}}, []byte{0x80, 0, 7, 12, 1, 0, 0, 0, 0, 0, 1, 0, 0, 0, 0, 0}},
	{api.Oxm{Field: api.VlanVid, Value: api.Wide{Lo: 0x1FFF}}, []byte{0x80, 0, 12, 2, 0x1F, 0xFF}},
	{api.Oxm{Field: api.VlanPcp, Value: api.Wide{Lo: 7}}, []byte{0x80, 0, 14, 1, 7}},
	{api.Oxm{Field: api.ICMPType}, []byte{0x80, 0, 38, 1, 0}},
	{api.Oxm{Field: api.IPv6Dst, Masked: true, Value: api.Wide{Hi: 1 << 63, Lo: 2}, Mask: api.Wide{Hi: 1 << 63, Lo: 3}},
		[]byte{0x80, 0, 55, 32, 0x80, 0, 0, 0, 0, 0, 0, 0, 0, 0, 0, 0, 0, 0, 0, 2, 0x80, 0, 0, 0, 0, 0, 0, 0, 0, 0, 0, 0, 0, 0, 0, 3}},
	{api.Oxm{Field: api.MPLSLabel, Value: api.Wide{Lo: 0xABCDE}}, []byte{0x80, 0, 68, 3, 0x0A, 0xBC, 0xDE}},
}

func TestSpelt(t *testing.T) { // P10.1, P10.2
	for _, one := range spelt {
		if b, e := oxm.Encode(one.o); e != api.OK || !bytes.Equal(b, one.b) {
			t.Errorf("Encode(%v): %x, %d", one.o, b, e)
		}
		if o, n, f := oxm.Decode(one.b); o != one.o || n != len(one.b) || f != (api.Fault{}) {
			t.Errorf("Decode(%x): %v, %d, %v", one.b, o, n, f)
		}
	}
}

func TestTern(t *testing.T) { // P10.1: of those that may not be, too
	for f, bits := range bitsOf {
		for _, v := range []api.Wide{{}, at(0), low(bits), whole, at(127)} {
			for _, m := range []api.Wide{{}, at(0), at(64), low(bits), whole} {
				if got := oxm.Tern(api.Oxm{Field: f, Value: v, Mask: m}); got != (api.Tern{Value: v, Mask: low(bits)}) {
					t.Errorf("Tern of field %d, %x, not masked: %x", f, v, got)
				}
				if got := oxm.Tern(api.Oxm{Field: f, Masked: true, Value: v, Mask: m}); got != (api.Tern{Value: v, Mask: m}) {
					t.Errorf("Tern of field %d, %x, masked by %x: %x", f, v, m, got)
				}
			}
		}
	}
	for _, f := range none {
		for _, masked := range []bool{false, true} {
			if got := oxm.Tern(api.Oxm{Field: f, Masked: masked, Value: whole, Mask: whole}); got != (api.Tern{}) {
				t.Errorf("Tern of field %d: %x", f, got)
			}
		}
	}
}

func TestSame(t *testing.T) { // P10.1: they are otherwise in just one thing
	for _, f := range append([]int{0, api.IPv6Src, api.Fields - 1}, none...) {
		a := api.Oxm{Field: f, Masked: true, Value: api.Wide{Hi: 1, Lo: 2}, Mask: api.Wide{Hi: 3, Lo: 4}}
		if !oxm.Same(a, a) || !oxm.Same(api.Oxm{Field: f}, api.Oxm{Field: f}) {
			t.Errorf("Same of field %d: false", f)
		}
		var others [6]api.Oxm
		for k := range others {
			others[k] = a
		}
		others[0].Field = f ^ 1
		others[1].Masked = false
		others[2].Value.Hi++
		others[3].Value.Lo++
		others[4].Mask.Hi++
		others[5].Mask.Lo++
		for k, b := range others {
			if oxm.Same(a, b) || oxm.Same(b, a) {
				t.Errorf("Same(%v, %v), %d: true", a, b, k)
			}
		}
	}
	// What is not masked has its Mask held together, too.
	if oxm.Same(api.Oxm{}, api.Oxm{Mask: at(0)}) {
		t.Error("Same of two with other Masks: true")
	}
}

func TestDecode(t *testing.T) { // P10.2: bytes that stand behind do nothing
	for _, o := range rights() {
		b := bytesFor(o)
		for _, behind := range [][]byte{nil, {0}, {0xFF}, {0x80, 0, 0, 4, 0, 0, 0, 1}, bytes.Repeat([]byte{7}, 300)} {
			if got, n, f := oxm.Decode(slices.Concat(b, behind)); got != o || n != len(b) || f != (api.Fault{}) {
				t.Errorf("Decode(%x) with %d bytes behind: %v, %d, %v", b, len(behind), got, n, f)
			}
		}
	}
}

func refused(t *testing.T, b []byte, code int) {
	t.Helper()
	if o, n, f := oxm.Decode(b); o != (api.Oxm{}) || n != 0 || f != (api.Fault{Is: true, Type: 4, Code: code}) {
		t.Errorf("Decode(%x): %v, %d, %v, want (4, %d)", b, o, n, f, code)
	}
}

func TestDecodeOfTooFew(t *testing.T) { // P10.2: whatever else is wrong
	refused(t, nil, 1)
	refused(t, []byte{}, 1)
	for _, o := range rights() {
		b := bytesFor(o)
		for n := range len(b) {
			refused(t, b[:n], 1)
		}
	}
	for _, b := range [][]byte{
		{0x80}, {0x80, 0}, {0x80, 0, 0}, {0, 0, 0}, {0xFF, 0xFF, 0xFF}, // not even a head
		{0x80, 0, 0, 1}, {0x80, 0, 0, 5, 0, 0, 0, 0}, {0x80, 0, 0, 255, 0, 0, 0, 1}, // fewer than it says
		{0, 0, 0, 4, 0, 0, 0}, {0x80, 0, 2, 1}, {0x80, 0, 1, 4, 0, 0, 0}, {0x80, 0, 12, 3, 0xFF, 0xFF},
	} {
		refused(t, b, 1)
	}
	refused(t, append([]byte{0x80, 0, 0, 255}, make([]byte, 254)...), 1)
	refused(t, append([]byte{0x80, 1, 0, 255}, make([]byte, 255)...), 6)
}

func TestDecodeOfAnotherClass(t *testing.T) { // P10.2: whatever is wrong behind
	for _, head := range [][2]byte{{0, 0}, {0x80, 1}, {0, 0x80}, {0x81, 0}, {0, 1}, {0x7F, 0xFF}, {0xFF, 0xFF}, {0xC0, 0}} {
		for _, o := range rights() {
			b := bytesFor(o)
			b[0], b[1] = head[0], head[1]
			refused(t, b, 6)
		}
		refused(t, []byte{head[0], head[1], 1, 0}, 6)                   // masked, and may not be
		refused(t, []byte{head[0], head[1], 0, 0}, 6)                   // says too few
		refused(t, []byte{head[0], head[1], 12, 2, 0xFF, 0xFF}, 6)      // bits beyond
		refused(t, []byte{head[0], head[1], 13, 4, 0, 0, 0, 0}, 6)      // a mask of no bits
		refused(t, []byte{head[0], head[1], 13, 4, 0, 1, 0, 2, 99}, 6)  // a value beside it
		refused(t, []byte{head[0], head[1], 2, 4, 0, 0, 0, 0, 0, 0}, 6) // of no field
	}
}

func TestDecodeOfEachKind(t *testing.T) { // P10.2: each ID, masked and not, each length
	for kind := range 256 {
		f := slices.Index(idOf[:], kind/2)
		masked := kind%2 == 1
		for says := range 256 {
			b := make([]byte, 4+255)
			b[0], b[2], b[3] = 0x80, byte(kind), byte(says)
			switch {
			case f < 0:
				refused(t, b, 6)
			case masked && !masksOf[f]:
				refused(t, b, 8)
			case !masked && says != bytesOf[f], masked && says != 2*bytesOf[f]:
				refused(t, b, 1)
			case masked:
				refused(t, b, 8)
			default:
				if o, n, fault := oxm.Decode(b); o != (api.Oxm{Field: f}) || n != 4+says || fault.Is {
					t.Errorf("Decode of field %d: %v, %d, %v", f, o, n, fault)
				}
			}
		}
	}
}

func TestDecodeOfBitsBeyond(t *testing.T) { // P10.2
	for f, bits := range bitsOf {
		full := low(bits)
		for i := bits; i < 8*bytesOf[f]; i++ {
			far := at(i)
			refused(t, bytesFor(api.Oxm{Field: f, Value: far}), 7)
			refused(t, bytesFor(api.Oxm{Field: f, Value: xor(full, far)}), 7)
			if !masksOf[f] {
				refused(t, bytesFor(api.Oxm{Field: f, Masked: true, Value: far, Mask: full}), 8)
				continue
			}
			// Value's come ahead of all that is wrong with Mask.
			for _, m := range []api.Wide{{}, at(0), full, far, xor(full, far)} {
				refused(t, bytesFor(api.Oxm{Field: f, Masked: true, Value: far, Mask: m}), 7)
			}
			// Mask's come ahead of what is beside it.
			refused(t, bytesFor(api.Oxm{Field: f, Masked: true, Mask: far}), 8)
			refused(t, bytesFor(api.Oxm{Field: f, Masked: true, Mask: xor(full, far)}), 8)
			refused(t, bytesFor(api.Oxm{Field: f, Masked: true, Value: at(0), Mask: far}), 8)
		}
	}
}

func TestDecodeOfMasks(t *testing.T) { // P10.2
	for f, bits := range bitsOf {
		full := low(bits)
		if !masksOf[f] {
			for _, m := range []api.Wide{{}, at(0), full} {
				refused(t, bytesFor(api.Oxm{Field: f, Masked: true, Mask: m}), 8)
			}
			refused(t, []byte{0x80, 0, byte(2*idOf[f] + 1), 0}, 8) // ahead of how many it says
			continue
		}
		refused(t, bytesFor(api.Oxm{Field: f, Masked: true}), 8)
		refused(t, bytesFor(api.Oxm{Field: f, Masked: true, Value: full}), 8) // ahead of what is beside it
		for i := range bits {
			refused(t, bytesFor(api.Oxm{Field: f, Masked: true, Value: at(i), Mask: xor(full, at(i))}), 5)
			refused(t, bytesFor(api.Oxm{Field: f, Masked: true, Value: full, Mask: xor(full, at(i))}), 5)
			refused(t, bytesFor(api.Oxm{Field: f, Masked: true, Value: at(i), Mask: at((i + 1) % bits)}), 5)
		}
	}
}

func TestWhichFaultComesFirst(t *testing.T) { // P10.2: two at once, told without a second reckoning
	for _, one := range []struct {
		b    []byte
		code int
	}{
		{[]byte{0, 0, 2, 1}, 1},                               // too few, and no class
		{[]byte{0x80, 0, 1, 1}, 1},                            // too few, and masked
		{[]byte{0x80, 0, 2, 0}, 6},                            // no field, whatever it says
		{[]byte{0x80, 0, 3, 0}, 6},                            // no field, and masked
		{[]byte{0x80, 0, 11, 2, 0, 0}, 8},                     // masked, and says too few
		{[]byte{0x80, 0, 15, 3, 0xFF, 0xFF, 0xFF}, 8},         // masked, says too many, bits beyond
		{[]byte{0x80, 0, 12, 1, 0xFF}, 1},                     // says too few, bits beyond
		{[]byte{0x80, 0, 12, 3, 0xFF, 0xFF, 0xFF}, 1},         // says too many, bits beyond
		{[]byte{0x80, 0, 12, 4, 0, 0, 0, 0}, 1},               // says as many as a masked one
		{[]byte{0x80, 0, 13, 2, 0, 0}, 1},                     // says as many as one that is not
		{[]byte{0x80, 0, 13, 3, 0, 1, 0}, 1},                  // says too few, no mask
		{[]byte{0x80, 0, 13, 5, 0, 1, 0, 0, 0}, 1},            // says too many, no mask
		{[]byte{0x80, 0, 13, 4, 0x20, 0, 0, 0}, 7},            // bits beyond, no mask
		{[]byte{0x80, 0, 13, 4, 0x20, 0, 0x20, 0}, 7},         // both beyond
		{[]byte{0x80, 0, 13, 4, 0x20, 1, 0x00, 2}, 7},         // beyond, and beside
		{[]byte{0x80, 0, 13, 4, 0x10, 0, 0x20, 0}, 8},         // the mask beyond, the value beside
		{[]byte{0x80, 0, 13, 4, 0x10, 0, 0, 0}, 8},            // no mask, the value beside
		{[]byte{0x80, 0, 13, 4, 0x10, 0, 0x0F, 0xFF}, 5},      // beside alone
		{[]byte{0x80, 0, 13, 4, 0x10, 0, 0x0F, 0xFF, 0}, 5},   // and a byte behind
		{[]byte{0x80, 0, 14, 1, 8, 0x80, 0, 0, 4, 0, 0}, 7},   // and more behind
		{[]byte{0x80, 0, 68, 3, 0x10, 0, 0}, 7},               // the last field
		{[]byte{0x80, 0, 69, 6, 0, 0, 0, 0, 0, 1}, 8},         // it, masked
		{[]byte{0x80, 0, 70, 3, 0, 0, 0}, 6},                  // behind the last one
		{[]byte{0x80, 0, 0xFF, 0, 0, 0, 0, 0, 0, 0, 0, 0}, 6}, // far behind
	} {
		refused(t, one.b, one.code)
	}
}

func TestThereAndBack(t *testing.T) { // P10.3
	for _, o := range rights() {
		b, e := oxm.Encode(o)
		if got, n, f := oxm.Decode(b); e != api.OK || got != o || n != len(b) || f.Is {
			t.Errorf("Decode of Encode of %v: %v, %d, %v", o, got, n, f)
		}
	}
}

func TestBackAndThere(t *testing.T) { // P10.3: of bytes that are nearly right, or are
	next := uint64(1)
	draw := func(n int) int {
		next = next*6364136223846793005 + 1442695040888963407
		return int(next >> 33 % uint64(n))
	}
	all := rights()
	read, not := 0, 0
	for range 60000 {
		b := bytesFor(all[draw(len(all))])
		for range draw(3) {
			b[draw(len(b))] ^= 1 << draw(8)
		}
		o, n, f := oxm.Decode(append(b, byte(draw(256))))
		if f.Is {
			not++
			continue
		}
		read++
		if got, e := oxm.Encode(o); e != api.OK || !oxm.Right(o) || n > len(b)+1 || !bytes.Equal(got, b[:n]) {
			t.Errorf("Encode of Decode of %x: %x, %d", b, got, e)
		}
	}
	if read < 5000 || not < 5000 {
		t.Errorf("too few of a kind: %d, %d", read, not)
	}
}

func TestNothingChangedOrKept(t *testing.T) { // R3, R4
	wrong := []byte{0x80, 0, 13, 4, 0, 1, 0, 2}
	for _, b := range [][]byte{nil, {}, {0x80}, wrong, spelt[0].b, spelt[2].b, spelt[7].b, spelt[7].b[:30]} {
		room := append(bytes.Clone(b), bytes.Repeat([]byte{0xEE}, 40)...)
		was := bytes.Clone(room)
		// What stands in the spare room is none of b's bytes.
		o, n, f := oxm.Decode(room[:len(b)])
		if !bytes.Equal(room, was) {
			t.Errorf("Decode changed b's memory: %x", room)
		}
		clear(room)
		if again, m, g := oxm.Decode(bytes.Clone(b)); again != o || m != n || g != f {
			t.Errorf("Decode of the same: %v, %d, %v, and %v, %d, %v", o, n, f, again, m, g)
		}
	}
	for _, one := range spelt {
		kept, _ := oxm.Encode(one.o)
		other, _ := oxm.Encode(one.o)
		other = other[:cap(other)]
		for i := range other {
			other[i] = 0xEE
		}
		if !bytes.Equal(kept, one.b) {
			t.Errorf("Encode shares its answers: %x", kept)
		}
	}
}
