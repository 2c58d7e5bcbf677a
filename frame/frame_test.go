package frame_test

import (
	"bytes"
	"iter"
	"math"
	"slices"
	"testing"

	"weirbox/api"
	"weirbox/frame"
)

// lay is bytes of a message that says it has a length, with noughts, or what is told, behind its head.
func lay(length int, body ...byte) []byte {
	return append([]byte{4, 2, byte(length >> 8), byte(length), 0, 1, 2, 3}, body...)
}

// count is n bytes that tell their places.
func count(n int) []byte {
	b := make([]byte, n)
	for i := range b {
		b[i] = byte(i + 9)
	}
	return b
}

// message is one that is whole, and has n bytes.
func message(n int) []byte { return lay(n, count(n-8)...) }

// stream is bytes with the messages that are in it, and what is behind.
type stream struct {
	all  [][]byte
	rest []byte
}

func (s stream) bytes() []byte {
	return append(slices.Concat(s.all...), s.rest...)
}

// streams are told without a second reckoning.
func streams() []stream {
	all := []stream{{}}
	for n := range 8 { // fewer than 8 bytes, whatever they say
		all = append(all, stream{rest: make([]byte, n)}, stream{rest: lay(8)[:n]}, stream{rest: lay(n)[:n]}, stream{rest: lay(65535)[:n]})
	}
	for _, n := range []int{8, 9, 10, 15, 16, 17, 255, 256, 257, 264, 1000, 32768, 65534, 65535} {
		m := message(n)
		all = append(all, stream{all: [][]byte{m}}, stream{all: [][]byte{m, m}}, stream{all: [][]byte{message(8), m, message(9)}})
		for _, cut := range []int{1, 2, n / 2, n - 9, n - 8} { // at the end, with a head
			if cut >= 1 && cut <= n-8 {
				all = append(all, stream{rest: m[:n-cut]}, stream{all: [][]byte{m, message(8)}, rest: m[:n-cut]})
			}
		}
		for cut := range 8 { // and without
			all = append(all, stream{all: [][]byte{m}, rest: m[:cut]}, stream{all: [][]byte{message(12), m}, rest: m[:cut]})
		}
	}
	for length := range 8 { // less than 8: all that is left
		for _, n := range []int{8, 9, 16, 100, 65535, 65536, 70000} {
			m := lay(length, count(n-8)...)
			all = append(all, stream{all: [][]byte{m}}, stream{all: [][]byte{message(8), message(20), m}})
		}
		// What follows one that says so is no message of its own.
		all = append(all, stream{all: [][]byte{lay(length, message(8)...)}}, stream{all: [][]byte{message(9), lay(length, lay(65535)...)}})
	}
	for length := 9; length < 20; length++ { // more than there is
		all = append(all, stream{rest: lay(length)}, stream{all: [][]byte{message(8)}, rest: lay(length)})
	}
	for _, length := range []int{256, 257, 264, 1024, 2048, 32768, 65535} { // its high byte counts
		all = append(all, stream{rest: lay(length)}, stream{rest: lay(length, count(200)...)}, stream{rest: lay(length, count(length-9)...)})
	}
	return append(all, long(), stream{all: long().all, rest: lay(9)})
}

// long is many messages.
func long() stream {
	var s stream
	for i := range 1000 {
		s.all = append(s.all, message(8+i%50))
	}
	return s
}

// odd are bytes whose first ones, and whose last four of a head, are any: only the third and the fourth count.
func odd() []stream {
	var all []stream
	for _, x := range []byte{0, 1, 3, 5, 127, 128, 255} {
		m := []byte{x, 255 - x, 0, 10, x, x, 255 - x, x, 7, x}
		all = append(all, stream{all: [][]byte{m, m}, rest: m[:9]})
	}
	return all
}

func equal(a, b [][]byte) bool { return slices.EqualFunc(a, b, bytes.Equal) }

// gathered is what a walk tells, by the first so many.
func gathered(walk iter.Seq[[]byte], most int) [][]byte {
	var all [][]byte
	if most == 0 {
		return nil
	}
	for m := range walk {
		all = append(all, m)
		if len(all) == most {
			break
		}
	}
	return all
}

func TestStreams(t *testing.T) { // P16.1, P16.2: Split, List, Rest
	for _, s := range append(streams(), odd()...) {
		b := s.bytes()
		walk := frame.Split(b)
		for range 2 { // a second walk is as the first
			if got := gathered(walk, -1); !equal(got, s.all) {
				t.Errorf("Split of %d bytes: %d messages, want %d", len(b), len(got), len(s.all))
			}
		}
		if got := frame.List(b); !equal(got, s.all) {
			t.Errorf("List of %d bytes: %d messages, want %d", len(b), len(got), len(s.all))
		}
		if got := frame.Rest(b); !bytes.Equal(got, s.rest) {
			t.Errorf("Rest of %d bytes: %d, want %d", len(b), len(got), len(s.rest))
		}
		if back := append(slices.Concat(frame.List(b)...), frame.Rest(b)...); !bytes.Equal(back, b) {
			t.Errorf("List and Rest of %d bytes: %d", len(b), len(back))
		}
	}
}

func TestSpelt(t *testing.T) { // P16.1: bytes as they are
	for _, one := range []struct {
		b    []byte
		all  [][]byte
		rest []byte
	}{
		{nil, nil, nil},
		{[]byte{}, nil, nil},
		{[]byte{4, 0, 0, 8, 0, 0, 0}, nil, []byte{4, 0, 0, 8, 0, 0, 0}},
		{[]byte{4, 0, 0, 0, 0, 0, 0}, nil, []byte{4, 0, 0, 0, 0, 0, 0}},
		{[]byte{4, 0, 0, 8, 0, 0, 0, 1}, [][]byte{{4, 0, 0, 8, 0, 0, 0, 1}}, nil},
		{[]byte{4, 0, 0, 0, 0, 0, 0, 1, 4, 0, 0, 8, 0, 0, 0, 1}, [][]byte{{4, 0, 0, 0, 0, 0, 0, 1, 4, 0, 0, 8, 0, 0, 0, 1}}, nil},
		{[]byte{4, 0, 0, 7, 0, 0, 0, 1, 9}, [][]byte{{4, 0, 0, 7, 0, 0, 0, 1, 9}}, nil},
		{[]byte{4, 0, 0, 8, 0, 0, 0, 1, 9}, [][]byte{{4, 0, 0, 8, 0, 0, 0, 1}}, []byte{9}},
		{[]byte{4, 0, 0, 9, 0, 0, 0, 1, 9}, [][]byte{{4, 0, 0, 9, 0, 0, 0, 1, 9}}, nil},
		{[]byte{4, 0, 0, 10, 0, 0, 0, 1, 9}, nil, []byte{4, 0, 0, 10, 0, 0, 0, 1, 9}},
		{[]byte{4, 0, 1, 8, 0, 0, 0, 1, 9}, nil, []byte{4, 0, 1, 8, 0, 0, 0, 1, 9}},
		{[]byte{4, 0, 0, 9, 0, 0, 0, 1, 9, 4, 0, 0, 3, 0, 0, 0, 1, 9}, [][]byte{{4, 0, 0, 9, 0, 0, 0, 1, 9}, {4, 0, 0, 3, 0, 0, 0, 1, 9}}, nil},
	} {
		if got := frame.List(one.b); !equal(got, one.all) {
			t.Errorf("List(%v): %v", one.b, got)
		}
		if got := frame.Rest(one.b); !bytes.Equal(got, one.rest) {
			t.Errorf("Rest(%v): %v", one.b, got)
		}
	}
}

func TestEveryLength(t *testing.T) { // P16.1: each that a message may say, of some bytes behind another one
	left := count(300)
	for length := range 65536 {
		m := lay(length, left...)
		b := append(message(10), m...)
		want, rest := [][]byte{message(10)}, []byte(nil)
		switch {
		case length < 8:
			want = append(want, m)
		case length > len(m):
			rest = m
		default:
			rest = m[length:]
			want = append(want, m[:length])
			// What is behind is cut further.
			want = append(want, frame.List(rest)...)
			rest = frame.Rest(rest)
		}
		if got := frame.List(b); !equal(got, want) || !bytes.Equal(frame.Rest(b), rest) {
			t.Errorf("length %d: %d messages, %d behind", length, len(got), len(frame.Rest(b)))
		}
	}
}

func TestSpareRoomDoesNotCount(t *testing.T) { // P16.1: bytes behind b's end are none of b
	for _, n := range []int{8, 9, 16, 300} {
		full := message(n)
		for end := range full {
			if l, rest := frame.List(full[:end]), frame.Rest(full[:end]); len(l) != 0 || !bytes.Equal(rest, full[:end]) {
				t.Errorf("%d of %d bytes: %d messages, %d behind", end, n, len(l), len(rest))
			}
		}
	}
	room := lay(0, count(50)...)
	if l := frame.List(room[:20]); len(l) != 1 || !bytes.Equal(l[0], room[:20]) {
		t.Errorf("all that is left: %v", l)
	}
}

func TestStops(t *testing.T) { // P16.1: whoever stops has had the first ones, and may begin anew
	for _, s := range append(streams(), odd()...) {
		if len(s.all) > 20 {
			s.all = s.all[:20]
		}
		walk := frame.Split(s.bytes())
		for n := range len(s.all) + 2 {
			if got := gathered(walk, n); !equal(got, s.all[:min(n, len(s.all))]) {
				t.Errorf("stopped at %d of %d: %d", n, len(s.all), len(got))
			}
		}
		if got := gathered(walk, -1); len(got) < len(s.all) || !equal(got[:len(s.all)], s.all) {
			t.Errorf("a walk behind those that were stopped: %d of %d", len(got), len(s.all))
		}
	}
}

func TestWalksAreApart(t *testing.T) { // P16.1, R3, R4: two at once, and one within another
	s := long()
	walk := frame.Split(s.bytes())
	next, stop := iter.Pull(walk)
	defer stop()
	for i, want := range s.all[:50] {
		if m, ok := next(); !ok || !bytes.Equal(m, want) {
			t.Errorf("message %d: %v, %v", i, m, ok)
		}
		if got := gathered(walk, i+1); !equal(got, s.all[:i+1]) {
			t.Errorf("a walk within one: %d", len(got))
		}
	}
}

func TestHead(t *testing.T) { // P16.1
	for _, one := range []struct {
		kind, xid int
		body      []byte
		want      []byte
	}{
		{0, 0, nil, []byte{4, 0, 0, 8, 0, 0, 0, 0}},
		{0, 0, []byte{}, []byte{4, 0, 0, 8, 0, 0, 0, 0}},
		{0, 0, []byte{0}, []byte{4, 0, 0, 9, 0, 0, 0, 0, 0}},
		{255, 0, nil, []byte{4, 255, 0, 8, 0, 0, 0, 0}},
		{0, 0xFFFFFFFF, nil, []byte{4, 0, 0, 8, 255, 255, 255, 255}},
		{14, 0x01020304, []byte{5, 6, 7, 8}, []byte{4, 14, 0, 12, 1, 2, 3, 4, 5, 6, 7, 8}},
		{255, 0xFFFFFFFF, []byte{255}, []byte{4, 255, 0, 9, 255, 255, 255, 255, 255}},
		{128, 1 << 31, nil, []byte{4, 128, 0, 8, 128, 0, 0, 0}},
	} {
		if got, e := frame.Head(one.kind, one.xid, one.body); e != api.OK || !bytes.Equal(got, one.want) {
			t.Errorf("Head(%d, %d, %v): %v, %d", one.kind, one.xid, one.body, got, e)
		}
	}
	for _, n := range []int{0, 1, 247, 248, 249, 1000, 32760, 65519, 65526, 65527} {
		body := count(n)
		want := append([]byte{4, 3, byte((n + 8) >> 8), byte(n + 8), 0, 0, 0, 7}, body...)
		if got, e := frame.Head(3, 7, body); e != api.OK || !bytes.Equal(got, want) {
			t.Errorf("Head of %d: %d bytes, %d", n, len(got), e)
		}
	}
}

func TestHeadOfWrong(t *testing.T) { // P16.1, R1, R2: one thing beyond, each beside what may be, and all at once
	kinds := []int{math.MinInt, -1 << 32, -256, -1, 256, 257, 65536, 1 << 32, math.MaxInt}
	xids := []int{math.MinInt, -1 << 32, -1, 1 << 32, 1<<32 + 1, 1 << 40, math.MaxInt}
	bodies := [][]byte{make([]byte, 65528), make([]byte, 65529), make([]byte, 65535), make([]byte, 65536), make([]byte, 131072), make([]byte, 1000000)}
	refused := func(kind, xid int, body []byte) {
		t.Helper()
		if got, e := frame.Head(kind, xid, body); e != api.ErrArg || len(got) != 0 {
			t.Errorf("Head(%d, %d, %d bytes): %d bytes, %d", kind, xid, len(body), len(got), e)
		}
	}
	for _, kind := range kinds {
		refused(kind, 0, nil)
		refused(kind, 0xFFFFFFFF, make([]byte, 65527))
		refused(kind, -1, bodies[0])
	}
	for _, xid := range xids {
		refused(0, xid, nil)
		refused(255, xid, make([]byte, 65527))
	}
	for _, body := range bodies {
		refused(0, 0, body)
		refused(255, 0xFFFFFFFF, body)
	}
}

// draws answers numbers below n, the same ones each time.
func draws() func(n int) int {
	next := uint64(1)
	return func(n int) int {
		next = next*6364136223846793005 + 1442695040888963407
		return int(next >> 33 % uint64(n))
	}
}

func TestHeadsSplit(t *testing.T) { // P16.1: what Head lays is a message
	draw := draws()
	for range 300 {
		var all [][]byte
		for range draw(20) {
			m, e := frame.Head(draw(256), draw(1<<31), count(draw(60)))
			if e != api.OK {
				t.Fatal(e)
			}
			all = append(all, m)
		}
		if b := slices.Concat(all...); !equal(frame.List(b), all) || len(frame.Rest(b)) != 0 {
			t.Errorf("%d messages: %d, %d behind", len(all), len(frame.List(b)), len(frame.Rest(b)))
		}
	}
	for range 20 { // the longest ones
		m, _ := frame.Head(draw(256), draw(1<<31), count(65527-draw(2)))
		if got := frame.List(slices.Concat(m, m, m)); !equal(got, [][]byte{m, m, m}) {
			t.Errorf("%d messages", len(got))
		}
	}
}

func TestAllIsThere(t *testing.T) { // P16.2: of any bytes
	draw := draws()
	for range 20000 {
		b := make([]byte, draw(120))
		for i := range b {
			if i%4 == 3 || draw(4) == 0 {
				b[i] = byte(draw(40))
			}
		}
		all := frame.List(b)
		rest := frame.Rest(b)
		if !bytes.Equal(append(slices.Concat(all...), rest...), b) {
			t.Errorf("%v: %v, %v", b, all, rest)
		}
		if got := gathered(frame.Split(b), -1); !equal(got, all) {
			t.Errorf("Split of %v: %v, List: %v", b, got, all)
		}
		for i, m := range all { // each is as many bytes as it says, but for a last one that says less than 8
			says := int(m[2])<<8 | int(m[3])
			if says != len(m) && !(says < 8 && i == len(all)-1 && len(rest) == 0) || len(m) < 8 {
				t.Errorf("message %d of %v: %v", i, b, m)
			}
		}
		if len(rest) >= 8 && int(rest[2])<<8|int(rest[3]) <= len(rest) {
			t.Errorf("Rest of %v: %v", b, rest)
		}
	}
}

// fill overwrites b, and the room behind it.
func fill(b []byte) {
	b = b[:cap(b)]
	for i := range b {
		b[i] = 0xEE
	}
}

func TestBytesStay(t *testing.T) { // R3: what is handed in, and its spare room
	for _, s := range append(streams(), odd()...) {
		b := s.bytes()
		room := append(bytes.Clone(b), count(40)...)
		was := bytes.Clone(room)
		in := room[:len(b)]
		rest := frame.Rest(in)
		l := frame.List(in)
		walked := gathered(frame.Split(in), -1)
		head, _ := frame.Head(1, 2, in)
		if !bytes.Equal(room, was) {
			t.Fatalf("%d bytes were changed", len(b))
		}
		// Whoever changes what was answered doesn't change b, or what is behind it.
		fill(rest)
		fill(head)
		for _, m := range append(l, walked...) {
			fill(m)
		}
		if !bytes.Equal(room, was) {
			t.Errorf("%d bytes are shared", len(b))
		}
	}
}

func TestBytesAreNotKept(t *testing.T) { // R3: what is done to b once it was handed in
	for _, s := range append(streams(), odd()...) {
		b := append(s.bytes(), count(20)...)
		in := b[:len(b)-20]
		walk, begun := frame.Split(in), frame.Split(in)
		next, stop := iter.Pull(begun)
		if m, ok := next(); ok != (len(s.all) > 0) || ok && !bytes.Equal(m, s.all[0]) {
			t.Errorf("the first of %d: %v", len(s.all), ok)
		}
		l, rest := frame.List(in), frame.Rest(in)
		body := in[:min(len(in), 1000)]
		head, _ := frame.Head(1, 2, body)
		want := append([]byte{4, 1, byte((len(body) + 8) >> 8), byte(len(body) + 8), 0, 0, 0, 2}, body...)
		fill(b)
		if !equal(gathered(walk, -1), s.all) || !equal(l, s.all) || !bytes.Equal(rest, s.rest) || !bytes.Equal(head, want) {
			t.Errorf("%d messages hang on what b became", len(s.all))
		}
		for i := 1; i < min(len(s.all), 20); i++ {
			if m, ok := next(); !ok || !bytes.Equal(m, s.all[i]) {
				t.Errorf("message %d hangs on what b became", i)
			}
		}
		stop()
	}
}

func TestMessagesAreApart(t *testing.T) { // P16.1, R3: what is done to one, and to the room behind it
	for _, s := range append(streams(), odd()...) {
		if len(s.all) > 20 {
			s.all = s.all[:20]
		}
		b := s.bytes()
		walk := frame.Split(b)
		i := 0
		for m := range walk {
			if !bytes.Equal(m, s.all[i]) {
				t.Errorf("message %d of %d, once others were changed", i, len(s.all))
			}
			if cap(m) != len(m) {
				t.Errorf("message %d of %d has room behind it: %d", i, len(s.all), cap(m)-len(m))
			}
			_ = append(m, 0xEE, 0xEE, 0xEE, 0xEE)
			fill(m)
			if i++; i == len(s.all) {
				break
			}
		}
		if again := gathered(walk, len(s.all)); len(s.all) > 0 && !equal(again, s.all) {
			t.Errorf("a second walk of %d is otherwise", len(s.all))
		}
		l := frame.List(b)
		for i, m := range l {
			_ = append(m, 0xEE)
			fill(m)
			if i+1 < len(s.all) && !bytes.Equal(l[i+1], s.all[i+1]) {
				t.Errorf("List shares memory of %d and %d", i, i+1)
			}
		}
		if rest := frame.Rest(b); cap(rest) != len(rest) {
			t.Errorf("Rest of %d has room behind it: %d", len(b), cap(rest)-len(rest))
		}
	}
}
