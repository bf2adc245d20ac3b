package num_test

import (
	"bytes"
	"encoding/binary"
	"math"
	"testing"

	"craquelure/num"
)

// greatest is the greatest number of each size that is one.
var greatest = map[int]int{1: 1<<8 - 1, 2: 1<<16 - 1, 4: 1<<32 - 1}

func someSizes() []int {
	return []int{math.MinInt, -4, -1, 0, 1, 2, 3, 4, 5, 6, 7, 8, 9, 16, 32, 64, math.MaxInt}
}

func someNumbers() []int {
	l := []int{math.MinInt, math.MinInt + 1, -1 << 32, -1 << 31, -258, -2, -1, 0, 1, 2, 127, 128, 258, 1<<24 + 1, 1<<31 - 1, 1 << 31, 0x01020304, 0xfedcba98, math.MaxInt - 1, math.MaxInt}
	for _, g := range greatest {
		l = append(l, g-1, g, g+1)
	}
	return l
}

func somePlaces() []int {
	return []int{math.MinInt, -5, -4, -3, -2, -1, 0, 1, 2, 3, 4, 5, 6, 7, 8, 9, 10, math.MaxInt - 4, math.MaxInt - 1, math.MaxInt}
}

func someBytes() [][]byte {
	l := [][]byte{nil}
	for n := range 9 {
		l = append(l, bytes.Repeat([]byte{0xa5}, n), []byte{1, 0xff, 3, 0x80, 5, 6, 7, 8}[:n])
	}
	return l
}

func right(n, size int) bool {
	g, ok := greatest[size]
	return ok && n >= 0 && n <= g
}

// wire is the bytes of a number that is right, as the library lays them.
func wire(n, size int) []byte {
	l := binary.LittleEndian.AppendUint64(nil, uint64(n))
	return l[:size]
}

func inside(b []byte, at, size int) bool {
	if _, ok := greatest[size]; !ok {
		return false
	}
	for i := range size {
		if at < 0 || at >= len(b)-i {
			return false
		}
	}
	return true
}

// P1.1: a size is 1, 2 or 4; a number is from 0 to the greatest one of so many bytes.
func TestRight(t *testing.T) {
	for _, size := range someSizes() {
		for _, n := range someNumbers() {
			if got := num.Right(n, size); got != right(n, size) {
				t.Errorf("Right(%d, %d): %v", n, size, got)
			}
		}
	}
}

// P1.1: the lowest byte is the first one.
func TestPutExamples(t *testing.T) {
	for _, c := range []struct {
		b       []byte
		n, size int
		want    []byte
	}{
		{nil, 258, 2, []byte{2, 1}},
		{nil, 0, 1, []byte{0}},
		{nil, 255, 1, []byte{255}},
		{[]byte{9}, 258, 2, []byte{9, 2, 1}},
		{[]byte{9, 8}, 0x04030201, 4, []byte{9, 8, 1, 2, 3, 4}},
		{[]byte{}, 1<<32 - 1, 4, []byte{255, 255, 255, 255}},
		{[]byte{9}, 7, 4, []byte{9, 7, 0, 0, 0}},
		{[]byte{9}, 256, 1, []byte{9}},
		{[]byte{9}, 1 << 16, 2, []byte{9}},
		{[]byte{9}, 1 << 32, 4, []byte{9}},
		{[]byte{9}, -1, 4, []byte{9}},
		{[]byte{9}, 1, 3, []byte{9}},
		{[]byte{9}, 1, 8, []byte{9}},
		{nil, 1, 0, nil},
	} {
		if got := num.Put(c.b, c.n, c.size); !bytes.Equal(got, c.want) {
			t.Errorf("Put(%v, %d, %d): %v", c.b, c.n, c.size, got)
		}
	}
}

// P1.1: b, and n's bytes behind it; b alone, if they are not right.
func TestPut(t *testing.T) {
	for _, b := range someBytes() {
		for _, size := range someSizes() {
			for _, n := range someNumbers() {
				want := bytes.Clone(b)
				if right(n, size) {
					want = append(want, wire(n, size)...)
				}
				if got := num.Put(b, n, size); !bytes.Equal(got, want) {
					t.Fatalf("Put(%v, %d, %d): %v", b, n, size, got)
				}
			}
		}
	}
}

// P1.1: the lowest byte is the first one.
func TestGetExamples(t *testing.T) {
	b := []byte{1, 2, 3, 4, 255}
	for _, c := range []struct {
		at, size, want int
		ok             bool
	}{
		{0, 1, 1, true},
		{4, 1, 255, true},
		{0, 2, 513, true},
		{3, 2, 0xff04, true},
		{0, 4, 0x04030201, true},
		{1, 4, 0xff040302, true},
		{5, 1, 0, false},
		{4, 2, 0, false},
		{2, 4, 0, false},
		{-1, 1, 0, false},
		{-1, 2, 0, false},
		{-1, 4, 0, false},
		{0, 0, 0, false},
		{0, 3, 0, false},
		{0, 5, 0, false},
		{1, -1, 0, false},
		{math.MaxInt, 1, 0, false},
		{math.MaxInt, 4, 0, false},
		{math.MinInt, 4, 0, false},
	} {
		if got, ok := num.Get(b, c.at, c.size); got != c.want || ok != c.ok {
			t.Errorf("Get(%d, %d): %d, %v", c.at, c.size, got, ok)
		}
	}
	if got, ok := num.Get(nil, 0, 1); got != 0 || ok {
		t.Errorf("Get of nothing: %d, %v", got, ok)
	}
}

// P1.1: the number of the bytes; 0, false, if size is none, or one of them is not there.
func TestGet(t *testing.T) {
	for _, b := range someBytes() {
		for _, at := range somePlaces() {
			for _, size := range someSizes() {
				want, there := 0, inside(b, at, size)
				for i := 0; there && i < size; i++ {
					want |= int(b[at+i]) << (8 * i)
				}
				if got, ok := num.Get(b, at, size); got != want || ok != there {
					t.Fatalf("Get(%v, %d, %d): %d, %v", b, at, size, got, ok)
				}
			}
		}
	}
}

// P1.1: the bytes there are n's.
func TestSetExamples(t *testing.T) {
	b := []byte{9, 9, 9, 9, 9}
	for _, c := range []struct {
		at, n, size int
		want        []byte
	}{
		{0, 0, 1, []byte{0, 9, 9, 9, 9}},
		{4, 255, 1, []byte{9, 9, 9, 9, 255}},
		{1, 258, 2, []byte{9, 2, 1, 9, 9}},
		{3, 1<<16 - 1, 2, []byte{9, 9, 9, 255, 255}},
		{1, 0x04030201, 4, []byte{9, 1, 2, 3, 4}},
		{0, 1<<32 - 1, 4, []byte{255, 255, 255, 255, 9}},
		{5, 1, 1, b},
		{4, 1, 2, b},
		{2, 1, 4, b},
		{-1, 1, 1, b},
		{-1, 1, 4, b},
		{math.MaxInt, 1, 4, b},
		{math.MinInt, 1, 1, b},
		{0, 256, 1, b},
		{0, 1 << 16, 2, b},
		{0, 1 << 32, 4, b},
		{0, -1, 4, b},
		{0, 1, 3, b},
		{0, 1, 0, b},
	} {
		if got := num.Set(b, c.at, c.n, c.size); !bytes.Equal(got, c.want) {
			t.Errorf("Set(%d, %d, %d): %v", c.at, c.n, c.size, got)
		}
	}
}

// P1.1, P1.2: these bytes are n's, all others as they were; all, if n and size are not right, or a byte is not there.
func TestSet(t *testing.T) {
	for _, b := range someBytes() {
		for _, at := range somePlaces() {
			for _, size := range someSizes() {
				for _, n := range someNumbers() {
					want := bytes.Clone(b)
					if right(n, size) && inside(b, at, size) {
						copy(want[at:], wire(n, size))
					}
					if got := num.Set(b, at, n, size); !bytes.Equal(got, want) {
						t.Fatalf("Set(%v, %d, %d, %d): %v", b, at, n, size, got)
					}
				}
			}
		}
	}
}

// P1.2: Get of Put, and of Set, is the number.
func TestGetOfPutAndSet(t *testing.T) {
	for _, size := range []int{1, 2, 4} {
		for _, n := range someNumbers() {
			if !num.Right(n, size) {
				continue
			}
			for _, b := range someBytes() {
				if got, ok := num.Get(num.Put(b, n, size), len(b), size); got != n || !ok {
					t.Fatalf("Get of Put(%v, %d, %d): %d, %v", b, n, size, got, ok)
				}
				for at := 0; at <= len(b)-size; at++ {
					if got, ok := num.Get(num.Set(b, at, n, size), at, size); got != n || !ok {
						t.Fatalf("Get of Set(%v, %d, %d, %d): %d, %v", b, at, n, size, got, ok)
					}
				}
			}
		}
	}
}

// P1.2: all numbers of two bytes come back.
func TestAllOfTwoBytes(t *testing.T) {
	for n := range 1 << 16 {
		if got, ok := num.Get(num.Put(nil, n, 2), 0, 2); got != n || !ok {
			t.Fatalf("%d: %d, %v", n, got, ok)
		}
	}
}

// The answers share no memory with b, nor with its room behind, and with no other answer; b stays as it is.
func TestAnswersShareNothing(t *testing.T) {
	calls := map[string]func(b []byte) []byte{
		"Put":                    func(b []byte) []byte { return num.Put(b, 258, 2) },
		"Put of a wrong number":  func(b []byte) []byte { return num.Put(b, 256, 1) },
		"Put of a wrong size":    func(b []byte) []byte { return num.Put(b, 1, 3) },
		"Set":                    func(b []byte) []byte { return num.Set(b, 1, 258, 2) },
		"Set of a wrong number":  func(b []byte) []byte { return num.Set(b, 1, -1, 2) },
		"Set of a wrong size":    func(b []byte) []byte { return num.Set(b, 1, 1, 0) },
		"Set of a place behind":  func(b []byte) []byte { return num.Set(b, 4, 1, 1) },
		"Set of a place in part": func(b []byte) []byte { return num.Set(b, 1, 1, 4) },
	}
	for name, call := range calls {
		whole := []byte{11, 12, 13, 14, 15, 16, 17, 18}
		before := bytes.Clone(whole)
		first := call(whole[:4])
		again := call(whole[:4])
		if !bytes.Equal(whole, before) {
			t.Errorf("%s changes what it is handed: %v", name, whole)
		}
		want := bytes.Clone(again)
		spoil(first)
		if !bytes.Equal(whole, before) {
			t.Errorf("%s shares with what it is handed: %v", name, whole)
		}
		if !bytes.Equal(again, want) {
			t.Errorf("%s shares with its other answer: %v", name, again)
		}
	}
}

// spoil changes all bytes of l, and of the room behind it.
func spoil(l []byte) {
	l = l[:cap(l)]
	for i := range l {
		l[i] ^= 0xff
	}
}
