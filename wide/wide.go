// Package wide is layer 2: see ../../shared/doc/02-wide.md.
package wide

import (
	"bytes"
	"math/bits"

	"weirbox/api"
)

const (
	half   = 64       // bits of Lo, and of Hi
	whole  = 2 * half // bits of a number
	widest = 16       // bytes of a number: fewer are the last of so many
)

// And answers the bits that both have.
func And(a, b api.Wide) api.Wide {
	return api.Wide{Hi: a.Hi & b.Hi, Lo: a.Lo & b.Lo}
}

// Or answers the bits that one of them has, or both.
func Or(a, b api.Wide) api.Wide {
	return api.Wide{Hi: a.Hi | b.Hi, Lo: a.Lo | b.Lo}
}

// Xor answers the bits that just one of them has.
func Xor(a, b api.Wide) api.Wide {
	return api.Wide{Hi: a.Hi ^ b.Hi, Lo: a.Lo ^ b.Lo}
}

// Less answers a's bits that b has not.
func Less(a, b api.Wide) api.Wide {
	return api.Wide{Hi: a.Hi &^ b.Hi, Lo: a.Lo &^ b.Lo}
}

// Zero tells whether a has no bit.
func Zero(a api.Wide) bool {
	return a.Hi == 0 && a.Lo == 0
}

// Low answers the n lowest bits.
func Low(n int) api.Wide {
	n = hold(n, whole)
	return api.Wide{Hi: ones(n - half), Lo: ones(n)}
}

// Bit answers bit i alone.
func Bit(i int) api.Wide {
	if i < 0 || i >= whole {
		return api.Wide{}
	}
	return Less(Low(i+1), Low(i))
}

// Many answers how many bits a has.
func Many(a api.Wide) int {
	return bits.OnesCount64(a.Hi) + bits.OnesCount64(a.Lo)
}

// Has tells whether a has bit i.
func Has(a api.Wide, i int) bool {
	return !Zero(And(a, Bit(i)))
}

// Put answers b, and the size lowest bytes of a behind, the highest first.
func Put(b []byte, a api.Wide, size int) []byte {
	size = hold(size, widest)
	if size == 0 {
		// With nothing to append, append would answer b itself.
		return bytes.Clone(b)
	}
	all := spell(a)
	// Without room behind b, append can't write into what b's owner has there.
	return append(b[:len(b):len(b)], all[widest-size:]...)
}

// Get answers the number that the first size bytes of b are.
func Get(b []byte, size int) (api.Wide, bool) {
	if size < 0 || size > widest || size > len(b) {
		return api.Wide{}, false
	}
	var all [widest]byte
	copy(all[widest-size:], b[:size])
	return read(all), true
}

func hold(n, most int) int {
	return min(max(n, 0), most)
}

// ones answers the n lowest bits of a half.
func ones(n int) uint64 {
	// A shift by all 64 bits leaves 0, and 0 - 1 wraps round to all ones.
	return uint64(1)<<hold(n, half) - 1
}

func spell(a api.Wide) [widest]byte {
	var all [widest]byte
	for i := range widest / 2 {
		all[widest/2-1-i] = byte(a.Hi >> (8 * i))
		all[widest-1-i] = byte(a.Lo >> (8 * i))
	}
	return all
}

func read(all [widest]byte) api.Wide {
	var a api.Wide
	for i := range widest / 2 {
		a.Hi = a.Hi<<8 | uint64(all[i])
		a.Lo = a.Lo<<8 | uint64(all[widest/2+i])
	}
	return a
}
