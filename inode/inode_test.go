package inode_test

import (
	"bytes"
	"encoding/binary"
	"hash/adler32"
	"math"
	"testing"

	"craquelure/api"
	"craquelure/inode"
)

// fields is the numbers of an inode but its Kind, each with its limit as the chapter writes it.
var fields = []struct {
	name     string
	greatest int
	set      func(x *api.Inode, n int)
}{
	{"Impure", 255, func(x *api.Inode, n int) { x.Impure = n }},
	{"Nlink", 65535, func(x *api.Inode, n int) { x.Nlink = n }},
	{"Gen", 1<<28 - 1, func(x *api.Inode, n int) { x.Gen = n }},
	{"Size", 256, func(x *api.Inode, n int) { x.Size = n }},
	{"Ptr 0", 65535, func(x *api.Inode, n int) { x.Ptr[0] = n }},
	{"Ptr 1", 65535, func(x *api.Inode, n int) { x.Ptr[1] = n }},
	{"Ptr 2", 65535, func(x *api.Inode, n int) { x.Ptr[2] = n }},
	{"Ptr 3", 65535, func(x *api.Inode, n int) { x.Ptr[3] = n }},
	{"Attr", 65535, func(x *api.Inode, n int) { x.Attr = n }},
}

// greatest is the limit of a field in an inode of that kind.
func greatest(kind, field int) int {
	name := fields[field].name
	switch {
	case kind < 1 || kind > 4:
		return 0
	case name == "Size" && kind != api.File && kind != api.Link:
		return 0
	case name[0] == 'P' && kind == api.White:
		return 0
	}
	return fields[field].greatest
}

// around is numbers at a limit, beyond it, and far from it; those that are right by their lowest bytes alone are among them.
func around(greatest int) []int {
	return []int{0, 1, 2, greatest - 1, greatest, greatest + 1, greatest + 2, -1, -greatest, 255, 256, 257, 65535, 65536, 1<<28 - 1, 1 << 28, 1<<32 - 1, 1 << 32, 1<<32 + 1, math.MinInt, math.MaxInt}
}

// full is an inode all of whose numbers are unlike, and, in their bytes, also.
func full(kind int) api.Inode {
	x := api.Inode{Kind: kind, Impure: 0x79, Nlink: 0x0201, Gen: 0x06050403, Attr: 0x1110}
	if kind == api.File || kind == api.Link {
		x.Size = 0x0100
	}
	if kind != api.White {
		x.Ptr = [4]int{0x0908, 0x0b0a, 0x0d0c, 0x0f0e}
	}
	return x
}

// wire is 64 bytes of an inode's numbers, and the library's sum.
func wire(x api.Inode) []byte {
	b := []byte{byte(x.Kind), byte(x.Impure)}
	b = binary.LittleEndian.AppendUint16(b, uint16(x.Nlink))
	b = binary.LittleEndian.AppendUint32(b, uint32(x.Gen))
	b = binary.LittleEndian.AppendUint16(b, uint16(x.Size))
	for _, p := range x.Ptr {
		b = binary.LittleEndian.AppendUint16(b, uint16(p))
	}
	return sealed(binary.LittleEndian.AppendUint16(b, uint16(x.Attr)))
}

// sealed is the first 60 bytes of b, or bytes 0, and the library's sum of them.
func sealed(b []byte) []byte {
	l := make([]byte, 60)
	copy(l, b)
	return binary.LittleEndian.AppendUint32(l, adler32.Checksum(l))
}

// rightInodes is inodes at all limits, of all kinds.
func rightInodes() []api.Inode {
	var l []api.Inode
	for kind := 1; kind <= 4; kind++ {
		most := api.Inode{Kind: kind}
		for i, f := range fields {
			top := greatest(kind, i)
			for _, n := range []int{0, 1, top / 2, top - 1, top} {
				if n < 0 || n > top {
					continue
				}
				for _, x := range []api.Inode{{Kind: kind}, full(kind)} {
					f.set(&x, n)
					l = append(l, x)
				}
			}
			f.set(&most, top)
		}
		l = append(l, most)
	}
	return l
}

// wrongInodes is inodes of which one number alone is wrong.
func wrongInodes() []api.Inode {
	var l []api.Inode
	for kind := 0; kind <= 4; kind++ {
		for i, f := range fields {
			top := greatest(kind, i)
			for _, n := range around(fields[i].greatest) {
				if n >= 0 && n <= top {
					continue
				}
				x := api.Inode{Kind: kind}
				f.set(&x, n)
				l = append(l, x)
				if kind != api.Free {
					x = full(kind)
					f.set(&x, n)
					l = append(l, x)
				}
			}
		}
	}
	for _, kind := range []int{math.MinInt, -4, -1, 5, 6, 255, 256, 257, 258, 259, 260, 1<<32 + 1, math.MaxInt} {
		l = append(l, api.Inode{Kind: kind}, full(kind))
	}
	return l
}

// P7.1: each kind alone, and all zero.
func TestRightKinds(t *testing.T) {
	for kind, want := range map[int]bool{
		api.Free: true, api.Dir: true, api.File: true, api.Link: true, api.White: true,
		-1: false, 5: false, 255: false, 256: false, 257: false, math.MinInt: false, math.MaxInt: false,
	} {
		if got := inode.Right(api.Inode{Kind: kind}); got != want {
			t.Errorf("Right of Kind %d: %v", kind, got)
		}
	}
}

// P7.1: an inode of Kind Free is right only if it is all zero.
func TestRightFree(t *testing.T) {
	for _, f := range fields {
		var x api.Inode
		f.set(&x, 1)
		if inode.Right(x) {
			t.Errorf("one of Kind Free with %s 1 is right", f.name)
		}
		f.set(&x, 0)
		if !inode.Right(x) {
			t.Errorf("all zero isn't right behind %s", f.name)
		}
	}
}

// P7.1: each number at its limit, one below 0, and one beyond the limit; Size of a Dir and a White, Ptr of a White.
func TestRightEdges(t *testing.T) {
	for _, c := range []struct {
		why  string
		x    api.Inode
		want bool
	}{
		{"Impure 255", api.Inode{Kind: api.Dir, Impure: 255}, true},
		{"Impure 256", api.Inode{Kind: api.Dir, Impure: 256}, false},
		{"Impure -1", api.Inode{Kind: api.Dir, Impure: -1}, false},
		{"Impure of a White", api.Inode{Kind: api.White, Impure: 255}, true},
		{"Nlink 65535", api.Inode{Kind: api.File, Nlink: 65535}, true},
		{"Nlink 65536", api.Inode{Kind: api.File, Nlink: 65536}, false},
		{"Nlink -1", api.Inode{Kind: api.File, Nlink: -1}, false},
		{"Gen 2^28 - 1", api.Inode{Kind: api.Link, Gen: 268435455}, true},
		{"Gen 2^28", api.Inode{Kind: api.Link, Gen: 268435456}, false},
		{"Gen -1", api.Inode{Kind: api.Link, Gen: -1}, false},
		{"Size 256 of a File", api.Inode{Kind: api.File, Size: 256}, true},
		{"Size 257 of a File", api.Inode{Kind: api.File, Size: 257}, false},
		{"Size -1 of a File", api.Inode{Kind: api.File, Size: -1}, false},
		{"Size 256 of a Link", api.Inode{Kind: api.Link, Size: 256}, true},
		{"Size 257 of a Link", api.Inode{Kind: api.Link, Size: 257}, false},
		{"Size 1 of a Dir", api.Inode{Kind: api.Dir, Size: 1}, false},
		{"Size 256 of a Dir", api.Inode{Kind: api.Dir, Size: 256}, false},
		{"Size 1 of a White", api.Inode{Kind: api.White, Size: 1}, false},
		{"Size 256 of a White", api.Inode{Kind: api.White, Size: 256}, false},
		{"Ptr 65535 of a Dir", api.Inode{Kind: api.Dir, Ptr: [4]int{65535, 65535, 65535, 65535}}, true},
		{"Ptr 65536", api.Inode{Kind: api.File, Ptr: [4]int{65536}}, false},
		{"Ptr 3 65536", api.Inode{Kind: api.File, Ptr: [4]int{3: 65536}}, false},
		{"Ptr 3 -1", api.Inode{Kind: api.File, Ptr: [4]int{3: -1}}, false},
		{"Ptr 0 of a White", api.Inode{Kind: api.White, Ptr: [4]int{1}}, false},
		{"Ptr 3 of a White", api.Inode{Kind: api.White, Ptr: [4]int{3: 1}}, false},
		{"Attr 65535 of a White", api.Inode{Kind: api.White, Attr: 65535}, true},
		{"Attr 65536", api.Inode{Kind: api.White, Attr: 65536}, false},
		{"Attr -1", api.Inode{Kind: api.Dir, Attr: -1}, false},
	} {
		if got := inode.Right(c.x); got != c.want {
			t.Errorf("%s: %v", c.why, got)
		}
	}
}

// P7.1: all limits of all kinds, and beyond them.
func TestRight(t *testing.T) {
	for _, x := range rightInodes() {
		if !inode.Right(x) {
			t.Errorf("Right(%v): false", x)
		}
	}
	for _, x := range wrongInodes() {
		if inode.Right(x) {
			t.Errorf("Right(%v): true", x)
		}
	}
}

// P7.2: the numbers in their order, each of its size, bytes 0, and the sum.
func TestPutExample(t *testing.T) {
	want := make([]byte, 64)
	copy(want, []byte{2, 0x79, 1, 2, 3, 4, 5, 6, 0, 1, 8, 9, 10, 11, 12, 13, 14, 15, 16, 17})
	binary.LittleEndian.PutUint32(want[60:], adler32.Checksum(want[:60]))
	x := api.Inode{Kind: api.File, Impure: 0x79, Nlink: 0x0201, Gen: 0x06050403, Size: 256, Ptr: [4]int{0x0908, 0x0b0a, 0x0d0c, 0x0f0e}, Attr: 0x1110}
	if got, e := inode.Put(x); e != api.OK || !bytes.Equal(got, want) {
		t.Errorf("Put: %v, %d", got, e)
	}
}

// P7.2, P7.3: of one that is all zero 64 bytes 0, without a sum, and of these a zero one again.
func TestZero(t *testing.T) {
	got, e := inode.Put(api.Inode{})
	if e != api.OK || !bytes.Equal(got, make([]byte, 64)) {
		t.Errorf("Put of a zero one: %v, %d", got, e)
	}
	if x, ok := inode.Get(make([]byte, 64)); x != (api.Inode{}) || !ok {
		t.Errorf("Get of 64 bytes 0: %v, %v", x, ok)
	}
	mustBeNone(t, "a zero one, sealed", sealed(nil))
}

// P7.2, P7.3: what was put is got.
func TestPutAndGet(t *testing.T) {
	for _, x := range rightInodes() {
		b, e := inode.Put(x)
		if e != api.OK || !bytes.Equal(b, wire(x)) {
			t.Errorf("Put(%v): %v, %d", x, b, e)
		}
		if y, ok := inode.Get(wire(x)); y != x || !ok {
			t.Errorf("Get of Put(%v): %v, %v", x, y, ok)
		}
	}
}

// P7.2: ErrArg, and no bytes, of one that is not right.
func TestPutWrong(t *testing.T) {
	for _, x := range wrongInodes() {
		if b, e := inode.Put(x); e != api.ErrArg || len(b) != 0 {
			t.Errorf("Put(%v): %v, %d", x, b, e)
		}
	}
}

// mustBeNone wants a zero inode, and false.
func mustBeNone(t *testing.T, why string, b []byte) {
	t.Helper()
	if x, ok := inode.Get(b); x != (api.Inode{}) || ok {
		t.Errorf("%s: Get of %d bytes: %v, %v", why, len(b), x, ok)
	}
}

// P7.2: any other length than 64, of bytes of an inode, and of bytes 0.
func TestGetLengths(t *testing.T) {
	mustBeNone(t, "nothing", nil)
	for _, first := range [][]byte{make([]byte, 64), wire(full(api.File)), wire(inode.Fresh())} {
		long := append(bytes.Clone(first), make([]byte, 100)...)
		for n := range long {
			if n != 64 {
				mustBeNone(t, "another length", long[:n])
			}
		}
		mustBeNone(t, "bytes ahead", append([]byte{0}, first...))
		mustBeNone(t, "without the first byte", first[1:])
		mustBeNone(t, "twice", append(bytes.Clone(first), first...))
	}
}

// P7.2: each byte changed to each other value: the seal does not fit.
func TestGetChanged(t *testing.T) {
	for _, first := range [][]byte{make([]byte, 64), wire(full(api.Dir)), wire(full(api.File)), wire(full(api.White)), wire(inode.Fresh())} {
		b := bytes.Clone(first)
		for at := range b {
			for x := 1; x < 256; x++ {
				b[at] = first[at] ^ byte(x)
				mustBeNone(t, "a byte changed", b)
			}
			b[at] = first[at]
		}
		if _, ok := inode.Get(b); !ok {
			t.Errorf("Get behind all: %v", ok)
		}
	}
}

// P7.2, P7.3: sealed bytes that no right inode has.
func TestGetSealedWrong(t *testing.T) {
	for _, c := range []struct {
		why string
		x   api.Inode
	}{
		{"Kind 5", api.Inode{Kind: 5}},
		{"Kind 255", api.Inode{Kind: 255}},
		{"Kind Free, Impure 1", api.Inode{Impure: 1}},
		{"Kind Free, Nlink 1", api.Inode{Nlink: 1}},
		{"Kind Free, Gen 1", api.Inode{Gen: 1}},
		{"Kind Free, Attr 1", api.Inode{Attr: 1}},
		{"Gen 2^28", api.Inode{Kind: api.Dir, Gen: 1 << 28}},
		{"Gen 2^32 - 1", api.Inode{Kind: api.Dir, Gen: 1<<32 - 1}},
		{"Size 257", api.Inode{Kind: api.File, Size: 257}},
		{"Size 65535", api.Inode{Kind: api.Link, Size: 65535}},
		{"Size 1 of a Dir", api.Inode{Kind: api.Dir, Size: 1}},
		{"Size 1 of a White", api.Inode{Kind: api.White, Size: 1}},
		{"Ptr 0 of a White", api.Inode{Kind: api.White, Ptr: [4]int{1}}},
		{"Ptr 3 of a White", api.Inode{Kind: api.White, Ptr: [4]int{3: 256}}},
	} {
		mustBeNone(t, c.why, wire(c.x))
	}
	for at := 20; at < 60; at++ {
		b := wire(full(api.File))
		b[at] = 1
		mustBeNone(t, "a byte that is not spoken of", sealed(b))
		b = make([]byte, 64)
		b[at] = 1
		mustBeNone(t, "a byte that is not spoken of, all else 0", sealed(b))
	}
	mustBeNone(t, "64 bytes 255", bytes.Repeat([]byte{255}, 64))
	mustBeNone(t, "bytes 255, sealed", sealed(bytes.Repeat([]byte{255}, 60)))
}

// P7.3: whatever bytes are sealed: those that are got are those that are put, and what isn't got is no right inode's.
func TestGetSealedAny(t *testing.T) {
	x := uint32(1)
	got := 0
	for range 20000 {
		first := make([]byte, 20)
		for i := range first {
			x = x*1664525 + 1013904223
			if x>>30 != 0 { // bytes 0 are many, or hardly any inode would be right
				first[i] = byte(x>>20) & 15
			}
		}
		b := sealed(first)
		y, ok := inode.Get(b)
		if !ok {
			mustBeNone(t, "sealed bytes", b)
			if z := read(b); inode.Right(z) && z != (api.Inode{}) {
				t.Fatalf("Get of %v, which is right: %v", z, ok)
			}
			continue
		}
		got++
		if c, e := inode.Put(y); e != api.OK || !bytes.Equal(c, b) {
			t.Fatalf("Put of Get of %v: %v, %d", b, c, e)
		}
	}
	if got < 100 {
		t.Errorf("only %d inodes were got", got)
	}
}

// read is the numbers of a sector's bytes, by the library.
func read(b []byte) api.Inode {
	x := api.Inode{Kind: int(b[0]), Impure: int(b[1]), Nlink: two(b[2:]), Gen: int(binary.LittleEndian.Uint32(b[4:])), Size: two(b[8:]), Attr: two(b[18:])}
	for i := range x.Ptr {
		x.Ptr[i] = two(b[10+2*i:])
	}
	return x
}

func two(b []byte) int {
	return int(binary.LittleEndian.Uint16(b))
}

// P7.2: a Dir with Nlink 2, all else zero; it is right.
func TestFresh(t *testing.T) {
	x := inode.Fresh()
	if x != (api.Inode{Kind: api.Dir, Nlink: 2}) || !inode.Right(x) {
		t.Errorf("Fresh: %v", x)
	}
	want := sealed([]byte{1, 0, 2})
	if b, e := inode.Put(x); e != api.OK || !bytes.Equal(b, want) {
		t.Errorf("Put of Fresh: %v, %d", b, e)
	}
}

// The answers share no memory with each other; what is handed in stays as it is.
func TestAnswersShareNothing(t *testing.T) {
	for _, x := range []api.Inode{{}, inode.Fresh(), full(api.File)} {
		y, _ := inode.Put(x)
		want := bytes.Clone(y)
		z, _ := inode.Put(x)
		z = z[:cap(z)]
		for i := range z {
			z[i] ^= 0xff
		}
		if again, _ := inode.Put(x); !bytes.Equal(y, want) || !bytes.Equal(again, want) {
			t.Errorf("two answers of Put(%v) share", x)
		}
	}
	whole := append(wire(full(api.File)), 7, 7, 7)
	before := bytes.Clone(whole)
	inode.Get(whole[:64])
	inode.Get(whole[:63])
	inode.Get(whole)
	if !bytes.Equal(whole, before) {
		t.Error("what was handed in is changed")
	}
}
