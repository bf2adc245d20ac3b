package bitmap_test

import (
	"bytes"
	"math"
	"math/big"
	"slices"
	"testing"

	"craquelure/bitmap"
)

// with is n bits, of which those at these places are true.
func with(n int, places ...int) []bool {
	l := make([]bool, n)
	for _, i := range places {
		l[i] = true
	}
	return l
}

// bitsOf is what the library tells of the bits of b, the lowest one of the first byte first.
func bitsOf(b []byte) []bool {
	turned := slices.Clone(b)
	slices.Reverse(turned) // the library has the lowest byte last
	x := new(big.Int).SetBytes(turned)
	l := make([]bool, 8*len(b))
	for i := range l {
		l[i] = x.Bit(i) == 1
	}
	return l
}

// mixed is n bits that are unlike.
func mixed(n int) []bool {
	l := make([]bool, n)
	x := uint32(n) + 1
	for i := range l {
		x = x*1664525 + 1013904223
		l[i] = x>>31 == 1
	}
	return l
}

// someLists is lists of bits, of those lengths that the chapter's edges name, and of others.
func someLists() [][]bool {
	l := [][]bool{nil, {}, {true}, {false}, {true, false, true}}
	for _, n := range []int{1, 2, 7, 8, 9, 15, 16, 17, 60, 63, 64, 65, 255, 256, 257, 504, 505, 511, 512, 513, 514, 520, 1024, 1025, 5000} {
		ones := make([]bool, n)
		for i := range ones {
			ones[i] = true
		}
		l = append(l, make([]bool, n), ones, mixed(n), with(n, 0), with(n, n-1))
	}
	return l
}

// first is the first 512 of l, and false ones behind them.
func first(l []bool) []bool {
	r := make([]bool, 512)
	copy(r, l)
	return r
}

func count(l []bool) int {
	n := 0
	for _, x := range l {
		if x {
			n++
		}
	}
	return n
}

// P10.1: the lowest bit of a byte first.
func TestPutExamples(t *testing.T) {
	for _, c := range []struct {
		why   string
		used  []bool
		bytes map[int]byte
	}{
		{"none", nil, nil},
		{"true, false, true", []bool{true, false, true}, map[int]byte{0: 5}},
		{"false", []bool{false}, nil},
		{"1", with(1, 0), map[int]byte{0: 1}},
		{"8", with(8, 7), map[int]byte{0: 128}},
		{"9", with(9, 8), map[int]byte{1: 1}},
		{"9, the ninth false", with(9, 0, 7), map[int]byte{0: 129}},
		{"511", with(511, 510), map[int]byte{63: 64}},
		{"512", with(512, 511), map[int]byte{63: 128}},
		{"513, the last one", with(513, 512), nil},
		{"513, the last two", with(513, 511, 512), map[int]byte{63: 128}},
		{"600, some behind", with(600, 3, 512, 513, 519, 520, 599), map[int]byte{0: 8}},
		{"60", with(60, 0, 9, 18, 59), map[int]byte{0: 1, 1: 2, 2: 4, 7: 8}},
	} {
		want := make([]byte, 64)
		for at, x := range c.bytes {
			want[at] = x
		}
		if got := bitmap.Put(c.used); !bytes.Equal(got, want) {
			t.Errorf("Put of %s: %v", c.why, got)
		}
	}
}

// P10.1: 64 bytes; bit i is 1 just if used has a true at place i, of the first 512.
func TestPut(t *testing.T) {
	for _, used := range someLists() {
		got := bitmap.Put(used)
		if len(got) != 64 || !slices.Equal(bitsOf(got), first(used)) {
			t.Errorf("Put of %d bits: %v", len(used), got)
		}
	}
}

// P10.1: each bit alone.
func TestEachBit(t *testing.T) {
	for i := range 512 {
		b := make([]byte, 64)
		b[i>>3] = 1 << (i & 7)
		if got := bitmap.Put(with(512, i)); !bytes.Equal(got, b) {
			t.Errorf("Put of bit %d: %v", i, got)
		}
		if n := bitmap.Many(b); n != 1 {
			t.Errorf("Many of bit %d: %d", i, n)
		}
		for _, blocks := range []int{0, 1, i - 1, i, i + 1, i + 2, 60, 511, 512} {
			if blocks < 0 || blocks > 512 {
				continue
			}
			if i < blocks {
				mustGet(t, "the bit is among them", b, blocks, with(blocks, i))
			} else {
				mustNotGet(t, "the bit is behind them", b, blocks)
			}
		}
	}
}

func mustGet(t *testing.T, why string, b []byte, blocks int, want []bool) {
	t.Helper()
	if got, ok := bitmap.Get(b, blocks); !ok || !slices.Equal(got, want) {
		t.Errorf("%s: Get(%v, %d): %v, %v", why, b, blocks, got, ok)
	}
}

func mustNotGet(t *testing.T, why string, b []byte, blocks int) {
	t.Helper()
	if got, ok := bitmap.Get(b, blocks); ok || len(got) != 0 {
		t.Errorf("%s: Get of %d bytes, %d: %v, %v", why, len(b), blocks, got, ok)
	}
}

// P10.1: blocks -1, 0, 1, 511, 512 and 513, and others, of bytes 0 and of bytes 255.
func TestGetBlocks(t *testing.T) {
	none, ones := make([]byte, 64), bytes.Repeat([]byte{255}, 64)
	for blocks := range 513 {
		mustGet(t, "bytes 0", none, blocks, make([]bool, blocks))
		if blocks < 512 {
			mustNotGet(t, "bits behind", ones, blocks)
		}
	}
	mustGet(t, "bytes 255", ones, 512, bitsOf(ones))
	for _, blocks := range []int{math.MinInt, math.MinInt + 60, -513, -512, -511, -64, -8, -2, -1, 513, 514, 520, 1024, 4096, 1 << 16, 1 << 32, 1<<32 + 60, math.MaxInt - 7, math.MaxInt} {
		mustNotGet(t, "bytes 0", none, blocks)
		mustNotGet(t, "bytes 255", ones, blocks)
	}
}

// P10.1: any other length than 64, whatever the blocks.
func TestGetLengths(t *testing.T) {
	for _, long := range [][]byte{make([]byte, 200), append([]byte{5}, make([]byte, 199)...), bytes.Repeat([]byte{255}, 200)} {
		for n := range long {
			if n == 64 {
				continue
			}
			for _, blocks := range []int{-1, 0, 1, 3, 8, 60, 8 * n, 511, 512, 513} {
				mustNotGet(t, "another length", long[:n], blocks)
			}
		}
	}
	mustNotGet(t, "no bytes", nil, 0)
	mustNotGet(t, "no bytes", nil, 1)
}

// P10.1: a bit beyond the blocks that is 1: the next one, the last one, and each one behind true ones.
func TestGetBehind(t *testing.T) {
	for _, blocks := range []int{0, 1, 2, 7, 8, 9, 15, 16, 17, 59, 60, 61, 504, 510, 511} {
		used := mixed(blocks)
		mustGet(t, "nothing behind", bitmap.Put(used), blocks, used)
		for i := blocks; i < 512; i++ {
			b := bitmap.Put(used)
			b[i/8] |= 1 << (i % 8)
			mustNotGet(t, "a bit behind", b, blocks)
		}
	}
}

// P10.1: all that the library tells of any bytes.
func TestGet(t *testing.T) {
	for _, used := range someLists() {
		b := bitmap.Put(used)
		for _, blocks := range []int{0, 1, 3, 8, 9, 60, 64, 256, 511, 512} {
			all := bitsOf(b)
			if slices.Contains(all[blocks:], true) {
				mustNotGet(t, "a bit behind", b, blocks)
			} else {
				mustGet(t, "none behind", b, blocks, all[:blocks])
			}
		}
	}
}

// P10.1: how many bits are 1, of as many bytes as there are.
func TestMany(t *testing.T) {
	for _, c := range []struct {
		b    []byte
		want int
	}{
		{nil, 0},
		{[]byte{}, 0},
		{[]byte{0}, 0},
		{[]byte{1}, 1},
		{[]byte{128}, 1},
		{[]byte{5, 0, 3}, 4},
		{[]byte{255}, 8},
		{bytes.Repeat([]byte{255}, 63), 504},
		{bytes.Repeat([]byte{255}, 64), 512},
		{bytes.Repeat([]byte{255}, 65), 520},
		{append(make([]byte, 64), 1), 1},
		{bytes.Repeat([]byte{0xa5}, 1000), 4000},
	} {
		if got := bitmap.Many(c.b); got != c.want {
			t.Errorf("Many of %d bytes: %d, not %d", len(c.b), got, c.want)
		}
	}
	for x := range 256 {
		b := []byte{byte(x)}
		if got := bitmap.Many(b); got != count(bitsOf(b)) {
			t.Errorf("Many of %d: %d", x, got)
		}
	}
}

// P10.2: what was put is got, and counted.
func TestGetOfPut(t *testing.T) {
	lists := someLists()
	for n := range 513 {
		lists = append(lists, mixed(n))
	}
	for _, used := range lists {
		b := bitmap.Put(used)
		if got := bitmap.Many(b); got != count(first(used)) {
			t.Errorf("Many of Put of %d bits: %d", len(used), got)
		}
		if len(used) <= 512 {
			mustGet(t, "what was put", b, len(used), used)
		}
	}
}

// The answers share no memory with what was handed in, nor with each other, and what was handed in stays as it is.
func TestAnswersShareNothing(t *testing.T) {
	used := append(mixed(600), true, true)[:600]
	before := slices.Clone(used[:602])
	one, two := bitmap.Put(used), bitmap.Put(used)
	want := bytes.Clone(one)
	two = two[:cap(two)]
	for i := range two {
		two[i] ^= 0xff
	}
	if !bytes.Equal(one, want) || !bytes.Equal(bitmap.Put(used), want) {
		t.Error("two answers of Put share")
	}
	whole := append(bytes.Clone(want), 7, 7, 7)
	got, _ := bitmap.Get(whole[:64], 512)
	again, _ := bitmap.Get(whole[:64], 512)
	clear(again[:cap(again)])
	bitmap.Many(whole)
	bitmap.Get(whole[:63], 512)
	if !bytes.Equal(whole, append(bytes.Clone(want), 7, 7, 7)) {
		t.Errorf("what was handed in is changed: %v", whole)
	}
	clear(whole)
	if !slices.Equal(got, first(used)) {
		t.Error("Get shares")
	}
	if !slices.Equal(used[:602], before) {
		t.Error("the list is changed")
	}
}
