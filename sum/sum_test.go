package sum_test

import (
	"bytes"
	"encoding/binary"
	"hash/adler32"
	"testing"

	"craquelure/num"
	"craquelure/sum"
)

const modulus = 65521

// mixed is n bytes that are unlike.
func mixed(n int) []byte {
	l := make([]byte, n)
	x := uint32(n) + 1
	for i := range l {
		x = x*1664525 + 1013904223
		l[i] = byte(x >> 24)
	}
	return l
}

func someBytes() [][]byte {
	l := [][]byte{nil, {}, {0}, {1}, {255}, []byte("Wikipedia")}
	for _, n := range []int{1, 2, 3, 59, 60, 61, 63, 64, 65, 119, 120, 128, 256, 257, 258, 1000, 5552, 5553, 70000} {
		l = append(l, make([]byte, n), bytes.Repeat([]byte{1}, n), bytes.Repeat([]byte{255}, n), mixed(n))
	}
	return l
}

// plain is both sums by whole numbers, each step modulo the modulus.
func plain(b []byte) (int, int) {
	first, second := 1, 0
	for _, x := range b {
		first = (first + int(x)) % modulus
		second = (second + first) % modulus
	}
	return first, second
}

// P2.1: at first 1; then byte by byte.
func TestSumsExamples(t *testing.T) {
	for _, c := range []struct {
		b    []byte
		want complex128
	}{
		{nil, 1},
		{[]byte{}, 1},
		{[]byte{0}, 1 + 1i},
		{[]byte{0, 0}, 1 + 2i},
		{[]byte{7}, 8 + 8i},
		{[]byte{1, 2}, 4 + 6i},
		{[]byte{2, 1}, 4 + 7i},
		{[]byte{255}, 256 + 256i},
	} {
		if got := sum.Sums(c.b); got != c.want {
			t.Errorf("Sums(%v): %v", c.b, got)
		}
	}
}

// P2.1: the real part comes to the modulus by the last byte, just short of it, to it, and beyond.
func TestSumsAtTheModulusOfTheRealPart(t *testing.T) {
	ahead := bytes.Repeat([]byte{255}, 256) // with the 1 at first 65281
	for last, want := range map[byte]float64{239: 65520, 240: 0, 241: 1, 255: 15} {
		if got := real(sum.Sums(append(ahead[:256:256], last))); got != want {
			t.Errorf("last byte %d: %v", last, got)
		}
	}
}

// P2.1: bytes 0 leave the real part at 1, and raise the imaginary one by 1 each, up to the modulus.
func TestSumsAtTheModulusOfTheImaginaryPart(t *testing.T) {
	for n, want := range map[int]complex128{65520: 1 + 65520i, 65521: 1, 65522: 1 + 1i, 2 * 65521: 1} {
		if got := sum.Sums(make([]byte, n)); got != want {
			t.Errorf("%d bytes 0: %v", n, got)
		}
	}
}

// P2.1: both parts come beyond the modulus by the same byte: the real one is below it again, ahead of the imaginary one.
func TestSumsAtTheModulusOfBothParts(t *testing.T) {
	loud := bytes.Repeat([]byte{255}, 256)
	_, second := plain(loud)
	ahead := append(make([]byte, modulus-1-second), loud...) // each byte 0 at first raises the imaginary part by 1
	if got := sum.Sums(ahead); got != 65281+65520i {
		t.Fatalf("ahead of the last byte: %v", got)
	}
	for last, want := range map[byte]complex128{239: 65520 + 65519i, 240: 65520i, 241: 1, 242: 2 + 1i, 255: 15 + 14i} {
		if got := sum.Sums(append(ahead[:len(ahead):len(ahead)], last)); got != want {
			t.Errorf("last byte %d: %v", last, got)
		}
	}
}

// P2.1: both parts are whole numbers below the modulus, those of the plain count.
func TestSums(t *testing.T) {
	for _, b := range someBytes() {
		first, second := plain(b)
		if got := sum.Sums(b); got != complex(float64(first), float64(second)) {
			t.Errorf("Sums of %d bytes: %v, not %d, %d", len(b), got, first, second)
		}
	}
}

// P2.1: the real part, and 65536 times the imaginary one.
func TestOf(t *testing.T) {
	for _, c := range []struct {
		b    []byte
		want int
	}{
		{nil, 1},
		{[]byte{0}, 65537},
		{[]byte{1, 2}, 4 + 6*65536},
		{[]byte("Wikipedia"), 300286872},
		{make([]byte, 65520), 1 + 65520*65536},
	} {
		if got := sum.Of(c.b); got != c.want {
			t.Errorf("Of %d bytes: %d", len(c.b), got)
		}
	}
	for _, b := range someBytes() {
		if got := sum.Of(b); got != int(adler32.Checksum(b)) {
			t.Errorf("Of %d bytes: %d", len(b), got)
		}
	}
}

// P2.2: the first 60 bytes, or bytes 0, and their sum in 4 bytes.
func TestSeal(t *testing.T) {
	for _, b := range someBytes() {
		want := make([]byte, 60)
		copy(want, b)
		want = binary.LittleEndian.AppendUint32(want, adler32.Checksum(want))
		if got := sum.Seal(b); !bytes.Equal(got, want) {
			t.Errorf("Seal of %d bytes: %v", len(b), got)
		}
	}
}

// P2.2: bytes behind the first 60 say nothing; those that are not there are 0.
func TestSealAroundSixty(t *testing.T) {
	long := mixed(61)
	if !bytes.Equal(sum.Seal(long), sum.Seal(long[:60])) {
		t.Error("the byte behind the first 60 counts")
	}
	if bytes.Equal(sum.Seal(long[:60]), sum.Seal(long[:59])) {
		t.Error("the last one of 60 does not count")
	}
	if !bytes.Equal(sum.Seal(long[:59]), sum.Seal(append(long[:59:59], 0))) {
		t.Error("what is not there is not 0")
	}
	if got := sum.Seal(nil); len(got) != 64 || got[60] != 1 || got[62] != 60 {
		t.Errorf("Seal of nothing: %v", got)
	}
}

// P2.2: of another length than 64 nothing is sealed.
func TestSealedLengths(t *testing.T) {
	sealed := sum.Seal([]byte("craquelure"))
	long := append(bytes.Clone(sealed), make([]byte, 64)...)
	for n := range len(long) {
		if got := sum.Sealed(long[:n]); got != (n == 64) {
			t.Errorf("the first %d bytes: %v", n, got)
		}
	}
	if sum.Sealed(nil) || sum.Sealed(long) || sum.Sealed(append(bytes.Clone(sealed), sealed...)) {
		t.Error("sealed")
	}
}

// P2.2: of 64 bytes just those are sealed whose last four tell the sum.
func TestSealed(t *testing.T) {
	if sum.Sealed(make([]byte, 64)) || sum.Sealed(bytes.Repeat([]byte{255}, 64)) {
		t.Error("sealed")
	}
	body := mixed(60)
	if !sum.Sealed(num.Put(body, int(adler32.Checksum(body)), 4)) {
		t.Error("the sum of the first 60 bytes does not seal them")
	}
	if sum.Sealed(binary.BigEndian.AppendUint32(bytes.Clone(body), adler32.Checksum(body))) {
		t.Error("a sum with its greatest byte first seals")
	}
}

// P2.3: what was sealed is Sealed.
func TestSealedOfSeal(t *testing.T) {
	for _, b := range someBytes() {
		if !sum.Sealed(sum.Seal(b)) {
			t.Errorf("%d bytes", len(b))
		}
	}
}

// P2.3: each byte, changed to each other value, breaks the seal.
func TestOneByteChanged(t *testing.T) {
	for _, b := range [][]byte{nil, []byte("craquelure"), mixed(60), bytes.Repeat([]byte{255}, 60)} {
		sealed := sum.Seal(b)
		for at := range sealed {
			for x := 1; x < 256; x++ {
				sealed[at] ^= byte(x)
				if sum.Sealed(sealed) {
					t.Fatalf("byte %d is %d, and it is sealed still", at, sealed[at])
				}
				sealed[at] ^= byte(x)
			}
		}
	}
}

// The answers share no memory with b, nor with one another; b stays as it is.
func TestAnswersShareNothing(t *testing.T) {
	whole := mixed(128)
	before := bytes.Clone(whole)
	for _, n := range []int{0, 10, 60, 64, 100} {
		first, again := sum.Seal(whole[:n]), sum.Seal(whole[:n])
		want := bytes.Clone(again)
		for i := range first[:cap(first)] {
			first[:cap(first)][i] ^= 0xff
		}
		sum.Sums(whole[:n])
		sum.Of(whole[:n])
		sum.Sealed(whole[:n])
		if !bytes.Equal(whole, before) {
			t.Errorf("%d bytes: what was handed in is changed", n)
		}
		if !bytes.Equal(again, want) {
			t.Errorf("%d bytes: two answers share", n)
		}
	}
}
