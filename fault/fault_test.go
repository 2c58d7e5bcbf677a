package fault_test

import (
	"bytes"
	"math"
	"slices"
	"testing"

	"weirbox/api"
	"weirbox/fault"
)

// number is n in so many bytes, the highest first.
func number(n, size int) []byte {
	var b []byte
	for k := size - 1; k >= 0; k-- {
		b = append(b, byte(n>>(8*k)))
	}
	return b
}

// laid is the reply by the chapter's words: of a fault that may be told, to a message that begins so.
func laid(kind, code, xid int, begin []byte) []byte {
	return slices.Concat([]byte{4, 1}, number(12+len(begin), 2), number(xid, 4), number(kind, 2), number(code, 2), begin)
}

// count is n bytes that are all told from those next to them, none of them a nought.
func count(n int) []byte {
	b := make([]byte, n)
	for i := range b {
		b[i] = byte(1 + i%251)
	}
	return b
}

// answer is what the reply has of a message that is count's: its xid, and how it began.
func answer(n int) (int, []byte) {
	if n < 8 {
		return 0, count(n)
	}
	return 0x05060708, count(min(n, 64))
}

// lengths are those of messages: those that the chapter names, and beside.
func lengths() []int {
	all := []int{127, 128, 129, 255, 256, 1000, 65535, 65536, 70000}
	for n := range 70 {
		all = append(all, n)
	}
	return all
}

// fitting are numbers that have room in 2 bytes, the least and the greatest among them.
func fitting() []int {
	all := []int{0, 3, 5, 6, 7, 9, 10, 255, 257, 0x1234, 32767, 65534, 65535}
	for i := range 16 {
		all = append(all, 1<<i)
	}
	return all
}

// beyond are numbers that haven't.
func beyond() []int {
	return []int{math.MinInt, math.MinInt + 1, -1 << 32, -65537, -65536, -65535, -256, -2, -1, 65536, 65537, 65542, 131071, 1 << 31, 1 << 32, 1<<32 + 1, 1 << 48, math.MaxInt - 1, math.MaxInt}
}

func TestOf(t *testing.T) { // P19.1: whatever the numbers
	all := append(fitting(), beyond()...)
	for _, kind := range all {
		for _, code := range all {
			if f := fault.Of(kind, code); f != (api.Fault{Is: true, Type: kind, Code: code}) {
				t.Errorf("Of(%d, %d): %v", kind, code, f)
			}
		}
	}
}

func TestSpelt(t *testing.T) { // P19.1: bytes as they are
	for _, one := range []struct {
		f       api.Fault
		message []byte
		want    []byte
	}{
		{api.Fault{Is: true}, nil, []byte{4, 1, 0, 12, 0, 0, 0, 0, 0, 0, 0, 0}},
		{api.Fault{Is: true}, []byte{}, []byte{4, 1, 0, 12, 0, 0, 0, 0, 0, 0, 0, 0}},
		{api.Fault{Is: true, Type: 1, Code: 6}, nil, []byte{4, 1, 0, 12, 0, 0, 0, 0, 0, 1, 0, 6}},
		{api.Fault{Is: true, Type: 1, Code: 6}, []byte{4}, []byte{4, 1, 0, 13, 0, 0, 0, 0, 0, 1, 0, 6, 4}},
		{api.Fault{Is: true, Type: 1, Code: 6}, []byte{4, 0, 0, 8, 9, 9, 9}, []byte{4, 1, 0, 19, 0, 0, 0, 0, 0, 1, 0, 6, 4, 0, 0, 8, 9, 9, 9}},
		{api.Fault{Is: true, Type: 5, Code: 2}, []byte{4, 14, 0, 8, 1, 2, 3, 4}, []byte{4, 1, 0, 20, 1, 2, 3, 4, 0, 5, 0, 2, 4, 14, 0, 8, 1, 2, 3, 4}},
		{api.Fault{Is: true, Type: 0x0102, Code: 0x0304}, []byte{1, 0, 0, 0, 255, 254, 253, 252, 7}, []byte{4, 1, 0, 21, 255, 254, 253, 252, 1, 2, 3, 4, 1, 0, 0, 0, 255, 254, 253, 252, 7}},
		{api.Fault{Is: true, Type: 65535, Code: 65535}, make([]byte, 8), append([]byte{4, 1, 0, 20, 0, 0, 0, 0, 255, 255, 255, 255}, make([]byte, 8)...)},
		{api.Fault{Is: true, Type: 65535}, make([]byte, 64), append([]byte{4, 1, 0, 76, 0, 0, 0, 0, 255, 255, 0, 0}, make([]byte, 64)...)},
		{api.Fault{Is: true, Code: 65535}, make([]byte, 65), append([]byte{4, 1, 0, 76, 0, 0, 0, 0, 0, 0, 255, 255}, make([]byte, 64)...)},
	} {
		if got := fault.Reply(one.f, one.message); !bytes.Equal(got, one.want) {
			t.Errorf("Reply(%v, %v): %v, want %v", one.f, one.message, got, one.want)
		}
	}
}

func TestReply(t *testing.T) { // P19.1: each number that fits, and a message of each length
	for _, kind := range fitting() {
		for _, code := range fitting() {
			for _, n := range []int{0, 7, 8, 63, 64, 65, 200} {
				xid, begin := answer(n)
				if got, want := fault.Reply(fault.Of(kind, code), count(n)), laid(kind, code, xid, begin); !bytes.Equal(got, want) {
					t.Errorf("Reply(%d, %d) to %d bytes: %v, want %v", kind, code, n, got, want)
				}
			}
		}
	}
	for _, n := range lengths() {
		xid, begin := answer(n)
		if got, want := fault.Reply(fault.Of(4, 9), count(n)), laid(4, 9, xid, begin); !bytes.Equal(got, want) {
			t.Errorf("Reply to %d bytes: %v, want %v", n, got, want)
		}
	}
}

func TestXid(t *testing.T) { // P19.1: the fifth to the eighth byte, each of their bits, and no other
	for _, n := range []int{8, 9, 12, 63, 64, 65, 300} {
		for at := range n {
			for bit := range 8 {
				m := make([]byte, n)
				m[at] = 1 << bit
				xid := 0
				if at >= 4 && at < 8 {
					xid = 1 << (8*(7-at) + bit)
				}
				if got, want := fault.Reply(fault.Of(1, 1), m), laid(1, 1, xid, m[:min(n, 64)]); !bytes.Equal(got, want) {
					t.Errorf("bit %d of byte %d of %d: %v, want %v", bit, at, n, got, want)
				}
			}
		}
	}
	for n := range 8 { // bytes in the spare room are none of the message
		m := bytes.Repeat([]byte{255}, 100)
		if got, want := fault.Reply(fault.Of(1, 6), m[:n]), laid(1, 6, 0, m[:n]); !bytes.Equal(got, want) {
			t.Errorf("%d bytes of 100: %v, want %v", n, got, want)
		}
	}
	for _, n := range []int{8, 63} {
		m := bytes.Repeat([]byte{255}, 100)
		if got, want := fault.Reply(fault.Of(1, 6), m[:n]), laid(1, 6, 0xFFFFFFFF, m[:n]); !bytes.Equal(got, want) {
			t.Errorf("%d bytes of 100: %v, want %v", n, got, want)
		}
	}
}

func TestNotTold(t *testing.T) { // P19.1: faults that are none, and numbers that have no room
	refused := func(f api.Fault) {
		t.Helper()
		for _, n := range []int{0, 7, 8, 63, 64, 65, 1000} {
			if got := fault.Reply(f, count(n)); len(got) != 0 {
				t.Errorf("Reply(%v) to %d bytes: %v", f, n, got)
			}
		}
	}
	for _, kind := range append(fitting(), beyond()...) {
		for _, code := range append(fitting(), beyond()...) {
			refused(api.Fault{Type: kind, Code: code})
		}
	}
	for _, n := range beyond() {
		for _, other := range append(fitting(), beyond()...) {
			refused(api.Fault{Is: true, Type: n, Code: other})
			refused(api.Fault{Is: true, Type: other, Code: n})
		}
	}
}

func parsed(t *testing.T, body []byte, want api.Fault, rest []byte) {
	t.Helper()
	if f, got, ok := fault.Parse(body); !ok || f != want || !bytes.Equal(got, rest) {
		t.Errorf("Parse of %d bytes: %v, %d behind, %v, want %v, %d", len(body), f, len(got), ok, want, len(rest))
	}
}

func TestParse(t *testing.T) { // P19.1: bodies of 4 bytes and of more
	parsed(t, []byte{0, 0, 0, 0}, api.Fault{Is: true}, nil)
	parsed(t, []byte{0, 1, 0, 6}, api.Fault{Is: true, Type: 1, Code: 6}, nil)
	parsed(t, []byte{1, 2, 3, 4}, api.Fault{Is: true, Type: 0x0102, Code: 0x0304}, nil)
	parsed(t, []byte{1, 2, 3, 4, 5}, api.Fault{Is: true, Type: 0x0102, Code: 0x0304}, []byte{5})
	parsed(t, []byte{255, 255, 255, 255, 0, 0}, api.Fault{Is: true, Type: 65535, Code: 65535}, []byte{0, 0})
	for _, kind := range fitting() {
		for _, code := range fitting() {
			for _, n := range []int{0, 1, 4, 8, 63, 64, 65, 500} {
				parsed(t, slices.Concat(number(kind, 2), number(code, 2), count(n)), api.Fault{Is: true, Type: kind, Code: code}, count(n))
			}
		}
	}
	for _, n := range lengths() {
		parsed(t, append([]byte{0, 4, 0, 9}, count(n)...), api.Fault{Is: true, Type: 4, Code: 9}, count(n))
	}
}

func TestParseOfShort(t *testing.T) { // P19.1, R2: fewer than 4, whatever stands in the spare room
	for n := range 4 {
		for _, body := range [][]byte{make([]byte, n), count(n), count(100)[:n], bytes.Repeat([]byte{255}, n)} {
			if f, rest, ok := fault.Parse(body); ok || f != (api.Fault{}) || len(rest) != 0 {
				t.Errorf("Parse(%v): %v, %v, %v", body, f, rest, ok)
			}
		}
	}
	if f, rest, ok := fault.Parse(nil); ok || f != (api.Fault{}) || len(rest) != 0 {
		t.Errorf("Parse of nothing: %v, %v, %v", f, rest, ok)
	}
}

func TestName(t *testing.T) { // P19.2: by Type, whatever the Code
	want := map[int]string{1: "bad request", 2: "bad action", 3: "bad instruction", 4: "bad match", 5: "flow mod failed", 6: "group mod failed"}
	all := slices.Concat(fitting(), beyond())
	for kind := -300; kind < 300; kind++ {
		all = append(all, kind)
	}
	for _, kind := range all {
		for _, code := range append(fitting(), beyond()...) {
			if got := fault.Name(api.Fault{Is: true, Type: kind, Code: code}); got != want[kind] {
				t.Errorf("Name(%d, %d): %q, want %q", kind, code, got, want[kind])
			}
			if got := fault.Name(api.Fault{Type: kind, Code: code}); got != "" { // none
				t.Errorf("Name of none, %d, %d: %q", kind, code, got)
			}
		}
	}
	if got := fault.Name(fault.Of(1, 6)); got != "bad request" {
		t.Errorf("Name(Of(1, 6)): %q", got)
	}
}

func TestReadBack(t *testing.T) { // P19.3
	for _, kind := range fitting() {
		for _, code := range fitting() {
			for _, n := range []int{0, 1, 7, 8, 9, 63, 64, 65, 1000} {
				f := fault.Of(kind, code)
				parsed(t, fault.Reply(f, count(n))[8:], f, count(min(n, 64)))
			}
		}
	}
	for _, n := range lengths() {
		parsed(t, fault.Reply(fault.Of(6, 7), count(n))[8:], fault.Of(6, 7), count(min(n, 64)))
	}
	// A reply is a message, too: it may be replied to.
	first := fault.Reply(fault.Of(2, 3), []byte{4, 14, 0, 8, 1, 2, 3, 4})
	second := fault.Reply(fault.Of(5, 6), first)
	if !bytes.Equal(second, laid(5, 6, 0x01020304, first)) {
		t.Errorf("a reply to a reply: %v", second)
	}
}

// fill overwrites b, and the room behind it.
func fill(b []byte) {
	b = b[:cap(b)]
	for i := range b {
		b[i] = 0xEE
	}
}

func TestBytesStay(t *testing.T) { // R3: what is handed in, its spare room included, isn't changed, and isn't what is answered
	for _, n := range lengths() {
		room := count(n + 100)
		for _, in := range [][]byte{room[:n], room[:n:n]} {
			reply := fault.Reply(fault.Of(1, 2), in)
			_, rest, _ := fault.Parse(in)
			none := fault.Reply(api.Fault{}, in)
			fill(reply)
			fill(rest)
			fill(none)
			if !bytes.Equal(room, count(n+100)) {
				t.Fatalf("%d bytes were changed", n)
			}
		}
	}
}

func TestBytesAreNotKept(t *testing.T) { // R3, R4: what is done to them once they were handed in, and to other answers
	for _, n := range lengths() {
		in := count(n)
		reply, other := fault.Reply(fault.Of(1, 2), in), fault.Reply(fault.Of(1, 2), in)
		f, rest, ok := fault.Parse(in)
		_, more, _ := fault.Parse(in)
		fill(in)
		fill(other)
		fill(more)
		xid, begin := answer(n)
		if !bytes.Equal(reply, laid(1, 2, xid, begin)) {
			t.Errorf("the reply to %d bytes hangs on what they became: %v", n, reply)
		}
		if ok != (n >= 4) || ok && (f != fault.Of(0x0102, 0x0304) || !bytes.Equal(rest, count(n)[4:])) {
			t.Errorf("what %d bytes say hangs on what they became: %v, %v", n, f, rest)
		}
		if again := fault.Reply(fault.Of(1, 2), count(n)); !bytes.Equal(again, reply) {
			t.Errorf("a second reply to %d bytes: %v", n, again)
		}
	}
}
