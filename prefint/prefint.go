// Package prefint is layer 1: whole numbers that share their first byte with other bits (shared/doc/01-prefint.md).
package prefint

import "footman/api"

const (
	leastBits = 1
	mostBits  = 8

	groupBits = 7    // of a number, in each byte behind the first one
	more      = 0x80 // in such a byte: another one follows

	// A reader takes more groups than any number needs, but not without end.
	mostGroups = 5
)

// Put tells a number's bytes.
func Put(first byte, bits, n int) ([]byte, api.Errno) {
	if !rightBits(bits) {
		return nil, api.ErrArg
	}
	if !rightNumber(n) {
		return nil, api.ErrRange
	}
	rest, ones := Rest(first, bits), lowest(bits)
	if n < ones {
		return []byte{rest | byte(n)}, api.OK
	}
	return putGroups([]byte{rest | byte(ones)}, n-ones), api.OK
}

// Get reads a number, and tells how many bytes it has.
func Get(b []byte, bits int) (int, int, api.Errno) {
	if !rightBits(bits) {
		return 0, 0, api.ErrArg
	}
	if len(b) == 0 {
		return 0, 0, api.ErrCut
	}
	ones := lowest(bits)
	n := int(b[0]) & ones
	if n < ones {
		return n, 1, api.OK
	}
	left, size, e := getGroups(b[1:])
	if e != api.OK {
		return 0, 0, e
	}
	if !rightNumber(ones + left) {
		return 0, 0, api.ErrRange
	}
	return ones + left, 1 + size, api.OK
}

// Size tells how many bytes a number has.
func Size(bits, n int) int {
	if !rightBits(bits) || !rightNumber(n) {
		return 0
	}
	ones := lowest(bits)
	if n < ones {
		return 1
	}
	return 1 + countGroups(n-ones)
}

// Rest tells the other bits of a first byte.
func Rest(first byte, bits int) byte {
	return first &^ byte(lowest(min(max(bits, leastBits), mostBits)))
}

func rightBits(bits int) bool { return bits >= leastBits && bits <= mostBits }

func rightNumber(n int) bool { return n >= 0 && n <= api.MaxInt }

// lowest is the greatest number that so many bits can tell.
func lowest(bits int) int { return 1<<bits - 1 }

// countGroups tells how few groups tell what is left; a nought needs one, too.
func countGroups(left int) int {
	count := 1
	for left >>= groupBits; left > 0; left >>= groupBits {
		count++
	}
	return count
}

func putGroups(b []byte, left int) []byte {
	last := countGroups(left) - 1
	for i := range last {
		b = append(b, more|byte(left>>(i*groupBits)))
	}
	return append(b, byte(left>>(last*groupBits)))
}

// getGroups reads what is left, and tells how many groups it has. What ends within them is cut off, but not once no further group may follow.
func getGroups(b []byte) (int, int, api.Errno) {
	left := 0
	for i := range mostGroups {
		if i >= len(b) {
			return 0, 0, api.ErrCut
		}
		left += int(b[i]&^more) << (i * groupBits)
		if b[i]&more == 0 {
			return left, i + 1, api.OK
		}
	}
	return 0, 0, api.ErrRange
}
