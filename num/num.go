// Package num is layer 1: numbers as bytes, the lowest byte first; see ../../shared/doc/01-num.md.
package num

import "bytes"

// Right tells whether size is a number's size, and n a number that so many bytes can hold.
func Right(n, size int) bool {
	return isSize(size) && n >= 0 && n < 1<<(8*size)
}

// Put answers b, and n's bytes behind it.
func Put(b []byte, n, size int) []byte {
	if !Right(n, size) {
		return bytes.Clone(b)
	}
	long := make([]byte, len(b)+size)
	copy(long, b)
	fill(field(long, len(b), size), n)
	return long
}

// Get answers the number of the bytes from at on.
func Get(b []byte, at, size int) (int, bool) {
	if !holds(b, at, size) {
		return 0, false
	}
	n := 0
	for i, x := range field(b, at, size) {
		n |= int(x) << (8 * i)
	}
	return n, true
}

// Set answers b, in which the bytes from at on are n's.
func Set(b []byte, at, n, size int) []byte {
	copied := bytes.Clone(b)
	if Right(n, size) && holds(copied, at, size) {
		fill(field(copied, at, size), n)
	}
	return copied
}

func isSize(size int) bool {
	return size == 1 || size == 2 || size == 4
}

// holds takes size off the length: added to at, it could run over the greatest int.
func holds(b []byte, at, size int) bool {
	return isSize(size) && at >= 0 && at <= len(b)-size
}

// field has no room behind it, so that a number can't run on into what lies behind its bytes.
func field(b []byte, at, size int) []byte {
	return b[at : at+size : at+size]
}

func fill(l []byte, n int) {
	for i := range l {
		l[i] = byte(n >> (8 * i))
	}
}
