// Package num is layer 1: see ../../shared/doc/01-num.md.
package num

import (
	"bytes"

	"weirbox/api"
)

// widest is the greatest size: a number of a smaller one is the last of so many bytes.
const widest = 4

// Right tells whether size is one, and n a number of it.
func Right(n, size int) bool {
	return isSize(size) && n >= 0 && n < 1<<(8*size)
}

// Put answers b, and n's bytes behind; b alone, unless they are Right.
func Put(b []byte, n, size int) []byte {
	if !Right(n, size) {
		// The answer is the caller's to write to, b isn't.
		return bytes.Clone(b)
	}
	all := spell(n)
	// Without room behind b, append can't write into what b's owner has there.
	return append(b[:len(b):len(b)], all[widest-size:]...)
}

// Get answers the number that size bytes of b are, from at on.
func Get(b []byte, at, size int) (int, api.Errno) {
	if !isSize(size) || at < 0 {
		return 0, api.ErrArg
	}
	// at may be any number: nothing is added to it before it is known to be small.
	if at > len(b)-size {
		return 0, api.ErrShort
	}
	var all [widest]byte
	copy(all[widest-size:], b[at:at+size])
	return read(all), api.OK
}

func isSize(size int) bool {
	return size == 1 || size == 2 || size == widest
}

func spell(n int) [widest]byte {
	var all [widest]byte
	for i := range widest {
		all[widest-1-i] = byte(n >> (8 * i))
	}
	return all
}

func read(all [widest]byte) int {
	n := 0
	for i := range widest {
		n = n<<8 | int(all[i])
	}
	return n
}
