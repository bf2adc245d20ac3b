// Package sum is layer 2: a check sum, and sectors that are sealed by it; see ../../shared/doc/02-sum.md.
package sum

import (
	"bytes"

	"craquelure/api"
	"craquelure/num"
)

const (
	modulus = 65521
	worth   = 65536 // of one of the imaginary sum, in Of
	sumSize = 4
	bodyLen = api.Sector - sumSize
)

// body is what is summed of a sector.
type body [bodyLen]byte

// Sums answers both sums of b: the real part sums the bytes, the imaginary one the real parts.
func Sums(b []byte) complex128 {
	z := complex(1, 0)
	for _, x := range b {
		z = reduce(z + complex(float64(x), 0))
		z = reduce(z + complex(0, real(z)))
	}
	return z
}

// reduce needs to take the modulus away but once: neither part is ever as great as twice the modulus.
func reduce(z complex128) complex128 {
	if real(z) >= modulus {
		z -= modulus
	}
	if imag(z) >= modulus {
		z -= complex(0, modulus)
	}
	return z
}

// Of answers both sums of b as one number.
func Of(b []byte) int {
	z := Sums(b)
	return int(real(z)) + worth*int(imag(z))
}

// Seal answers a sector: the first bytes of b, and their sum.
func Seal(b []byte) []byte {
	var summed body
	copy(summed[:], b)
	return num.Put(summed[:], Of(summed[:]), sumSize)
}

// Sealed tells whether b is a sector that Seal answers; one of another length never is.
func Sealed(b []byte) bool {
	return bytes.Equal(b, Seal(b))
}
