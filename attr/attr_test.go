package attr_test

import (
	"bytes"
	"encoding/binary"
	"hash/adler32"
	"math"
	"strings"
	"testing"

	"craquelure/api"
	"craquelure/attr"
)

const longest = "/abcdefghijkl/nopqrstuvw" // 24 bytes

// fields is the numbers that go with a bit of Has, each with its limit as the chapter writes it.
var fields = []struct {
	name          string
	bit, greatest int
	set           func(a *api.Attr, n int)
}{
	{"Opaque", 1, 255, func(a *api.Attr, n int) { a.Opaque = n }},
	{"Origin.Layer", 4, 255, func(a *api.Attr, n int) { a.Origin.Layer = n }},
	{"Origin.Ino", 4, 65535, func(a *api.Attr, n int) { a.Origin.Ino = n }},
	{"Origin.Gen", 4, 1<<28 - 1, func(a *api.Attr, n int) { a.Origin.Gen = n }},
	{"Shown", 8, 65535, func(a *api.Attr, n int) { a.Shown = n }},
}

// around is numbers at a limit, beyond it, and far from it; those that are right by their lowest bytes alone are among them.
func around(greatest int) []int {
	return []int{0, 1, 2, greatest - 1, greatest, greatest + 1, greatest + 2, -1, -greatest, 255, 256, 257, 65535, 65536, 1<<28 - 1, 1 << 28, 1<<32 - 1, 1 << 32, 1<<32 + 1, math.MinInt, math.MaxInt}
}

// full is attributes with these bits, and with all that goes with them; all numbers are unlike, also in their bytes.
func full(has int) api.Attr {
	a := api.Attr{Has: has}
	if has&1 != 0 {
		a.Opaque = 0x79
	}
	if has&2 != 0 {
		a.Redirect = "/a/b"
	}
	if has&4 != 0 {
		a.Origin = api.Origin{Layer: 0x10, Ino: 0x1211, Gen: 0x06151413}
	}
	if has&8 != 0 {
		a.Shown = 0x1817
	}
	return a
}

// bare is attributes with these bits, and of what goes with them no more than must be.
func bare(has int) api.Attr {
	a := api.Attr{Has: has}
	if has&2 != 0 {
		a.Redirect = "a"
	}
	return a
}

// someRedirects is texts of 1 to 24 bytes; some have bytes 0, and some end by them.
func someRedirects() []string {
	l := []string{"a", "/", "/a/b", longest[:23], longest, "\x00", "\x00\x00", "a\x00", "a\x00b", "\x00a", "\xff", "A b", "é", "..", "a//"}
	for n := 1; n <= 24; n++ {
		l = append(l, longest[:n], strings.Repeat("\x00", n), longest[:n-1]+"\x00", "\x00"+longest[:n-1])
	}
	return l
}

func longRedirects() []string {
	l := []string{longest + "x", longest + "\x00", strings.Repeat("\x00", 25)}
	for _, n := range []int{25, 26, 64, 255, 256, 257, 280, 1000} {
		l = append(l, strings.Repeat("a", n))
	}
	return l
}

// wire is the block of attributes, laid by the library.
func wire(a api.Attr) []byte {
	b := []byte{byte(a.Has), byte(a.Opaque), byte(len(a.Redirect))}
	b = append(b, a.Redirect...)
	b = append(b, make([]byte, max(0, 27-len(b)))...)
	b = append(b, byte(a.Origin.Layer))
	b = binary.LittleEndian.AppendUint16(b, uint16(a.Origin.Ino))
	b = binary.LittleEndian.AppendUint32(b, uint32(a.Origin.Gen))
	return sealed(binary.LittleEndian.AppendUint16(b, uint16(a.Shown)))
}

// sealed is the first 60 bytes of b, or bytes 0, and the library's sum of them.
func sealed(b []byte) []byte {
	l := make([]byte, 60)
	copy(l, b)
	return binary.LittleEndian.AppendUint32(l, adler32.Checksum(l))
}

// resealed is b with another byte at that place, and a sum that fits.
func resealed(b []byte, at int, x byte) []byte {
	l := bytes.Clone(b)
	l[at] = x
	return sealed(l)
}

// rightOnes is attributes of each Has, with each part at its limits.
func rightOnes() []api.Attr {
	var l []api.Attr
	for has := range 32 {
		most := full(has)
		l = append(l, full(has), bare(has))
		for _, f := range fields {
			if has&f.bit == 0 {
				continue
			}
			for _, n := range []int{0, 1, f.greatest / 2, f.greatest - 1, f.greatest} {
				for _, a := range []api.Attr{full(has), bare(has)} {
					f.set(&a, n)
					l = append(l, a)
				}
			}
			f.set(&most, f.greatest)
		}
		if has&2 != 0 {
			for _, s := range someRedirects() {
				for _, a := range []api.Attr{full(has), bare(has)} {
					a.Redirect = s
					l = append(l, a)
				}
			}
			most.Redirect = longest
		}
		l = append(l, most)
	}
	return l
}

// wrongOnes is attributes of which one part alone is wrong.
func wrongOnes() []api.Attr {
	var l []api.Attr
	for has := range 32 {
		for _, first := range []api.Attr{full(has), bare(has)} {
			for _, f := range fields {
				for _, n := range around(f.greatest) {
					if n == 0 || n > 0 && n <= f.greatest && has&f.bit != 0 {
						continue
					}
					a := first
					f.set(&a, n)
					l = append(l, a)
				}
			}
			redirects := longRedirects()
			if has&2 != 0 {
				redirects = append(redirects, "")
			} else {
				redirects = append(redirects, someRedirects()...)
			}
			for _, s := range redirects {
				a := first
				a.Redirect = s
				l = append(l, a)
			}
		}
	}
	for _, has := range []int{math.MinInt, math.MinInt + 31, -256, -32, -31, -2, -1, 32, 33, 63, 64, 255, 256, 257, 287, 1 << 16, 1 << 32, 1<<32 + 31, math.MaxInt} {
		l = append(l, api.Attr{Has: has}, full(has), bare(has))
	}
	return l
}

// P9.1: each Has from 0 to 31, and those around them.
func TestRightHas(t *testing.T) {
	for has := -70; has <= 300; has++ {
		want := 0 <= has && has <= 31
		if got := attr.Right(full(has)); got != want {
			t.Errorf("Has %d, and all that goes with it: %v", has, got)
		}
		if got := attr.Right(bare(has)); got != want {
			t.Errorf("Has %d, and a Redirect, if it must be: %v", has, got)
		}
	}
}

// P9.1: each part without its bit of Has, and with it; each number at its limit, below 0, and beyond the limit.
func TestRightEdges(t *testing.T) {
	for _, c := range []struct {
		why  string
		a    api.Attr
		want bool
	}{
		{"all zero", api.Attr{}, true},
		{"Has -1", api.Attr{Has: -1}, false},
		{"Has 32", api.Attr{Has: 32}, false},
		{"Has 31", api.Attr{Has: 31, Redirect: "a"}, true},
		{"Has 31 without a Redirect", api.Attr{Has: 31}, false},
		{"HasMeta alone", api.Attr{Has: 16}, true},
		{"HasOpaque, Opaque 0", api.Attr{Has: 1}, true},
		{"HasOpaque, Opaque Mark", api.Attr{Has: 1, Opaque: api.Mark}, true},
		{"HasOpaque, Opaque 255", api.Attr{Has: 1, Opaque: 255}, true},
		{"HasOpaque, Opaque 256", api.Attr{Has: 1, Opaque: 256}, false},
		{"HasOpaque, Opaque -1", api.Attr{Has: 1, Opaque: -1}, false},
		{"Opaque 1 alone", api.Attr{Opaque: 1}, false},
		{"Opaque -1 alone", api.Attr{Opaque: -1}, false},
		{"Opaque 1 of all other bits", api.Attr{Has: 30, Opaque: 1, Redirect: "a"}, false},
		{"HasRedirect, none", api.Attr{Has: 2}, false},
		{"HasRedirect, 1 byte", api.Attr{Has: 2, Redirect: "a"}, true},
		{"HasRedirect, a byte 0", api.Attr{Has: 2, Redirect: "\x00"}, true},
		{"HasRedirect, 24 bytes", api.Attr{Has: 2, Redirect: longest}, true},
		{"HasRedirect, 24 bytes 0", api.Attr{Has: 2, Redirect: strings.Repeat("\x00", 24)}, true},
		{"HasRedirect, 25 bytes", api.Attr{Has: 2, Redirect: longest + "x"}, false},
		{"HasRedirect, 25 bytes 0", api.Attr{Has: 2, Redirect: strings.Repeat("\x00", 25)}, false},
		{"a Redirect alone", api.Attr{Redirect: "a"}, false},
		{"a Redirect of a byte 0 alone", api.Attr{Redirect: "\x00"}, false},
		{"a Redirect of all other bits", api.Attr{Has: 29, Redirect: "a"}, false},
		{"HasOrigin, all 0", api.Attr{Has: 4}, true},
		{"HasOrigin, all at their limits", api.Attr{Has: 4, Origin: api.Origin{Layer: 255, Ino: 65535, Gen: 268435455}}, true},
		{"HasOrigin, Layer 256", api.Attr{Has: 4, Origin: api.Origin{Layer: 256}}, false},
		{"HasOrigin, Layer -1", api.Attr{Has: 4, Origin: api.Origin{Layer: -1}}, false},
		{"HasOrigin, Ino 65536", api.Attr{Has: 4, Origin: api.Origin{Ino: 65536}}, false},
		{"HasOrigin, Ino -1", api.Attr{Has: 4, Origin: api.Origin{Ino: -1}}, false},
		{"HasOrigin, Gen 2^28", api.Attr{Has: 4, Origin: api.Origin{Gen: 268435456}}, false},
		{"HasOrigin, Gen -1", api.Attr{Has: 4, Origin: api.Origin{Gen: -1}}, false},
		{"Layer 1 alone", api.Attr{Origin: api.Origin{Layer: 1}}, false},
		{"Ino 1 alone", api.Attr{Origin: api.Origin{Ino: 1}}, false},
		{"Gen 1 alone", api.Attr{Origin: api.Origin{Gen: 1}}, false},
		{"an Origin of all other bits", api.Attr{Has: 27, Redirect: "a", Origin: api.Origin{Ino: 1}}, false},
		{"HasShown, Shown 0", api.Attr{Has: 8}, true},
		{"HasShown, Shown 65535", api.Attr{Has: 8, Shown: 65535}, true},
		{"HasShown, Shown 65536", api.Attr{Has: 8, Shown: 65536}, false},
		{"HasShown, Shown -1", api.Attr{Has: 8, Shown: -1}, false},
		{"Shown 1 alone", api.Attr{Shown: 1}, false},
		{"Shown 1 of all other bits", api.Attr{Has: 23, Redirect: "a", Shown: 1}, false},
	} {
		if got := attr.Right(c.a); got != c.want {
			t.Errorf("%s: %v", c.why, got)
		}
	}
}

// P9.1: all limits of all parts, for each Has, and beyond them.
func TestRight(t *testing.T) {
	for _, a := range rightOnes() {
		if !attr.Right(a) {
			t.Errorf("Right(%.40v): false", a)
		}
	}
	for _, a := range wrongOnes() {
		if attr.Right(a) {
			t.Errorf("Right(%.40v): true", a)
		}
	}
}

// P9.2: the parts in their order, each of its size, bytes 0, and the sum.
func TestPutExample(t *testing.T) {
	want := make([]byte, 64)
	copy(want, []byte{31, 121, 5, '/', 'd', 0, '/', 'e'})
	copy(want[27:], []byte{3, 4, 5, 6, 7, 8, 9, 10, 11})
	binary.LittleEndian.PutUint32(want[60:], adler32.Checksum(want[:60]))
	a := api.Attr{Has: 31, Opaque: 121, Redirect: "/d\x00/e", Origin: api.Origin{Layer: 3, Ino: 0x0504, Gen: 0x09080706}, Shown: 0x0b0a}
	if got, e := attr.Put(a); e != api.OK || !bytes.Equal(got, want) {
		t.Errorf("Put: %v, %d", got, e)
	}
	if got, ok := attr.Get(want); got != a || !ok {
		t.Errorf("Get: %v, %v", got, ok)
	}
}

// P9.2: zero attributes are a seal of bytes 0, and 64 bytes 0 are none.
func TestZero(t *testing.T) {
	want := sealed(nil)
	if got, e := attr.Put(api.Attr{}); e != api.OK || !bytes.Equal(got, want) {
		t.Errorf("Put of zero ones: %v, %d", got, e)
	}
	if a, ok := attr.Get(want); a != (api.Attr{}) || !ok {
		t.Errorf("Get of a seal of bytes 0: %v, %v", a, ok)
	}
	mustBeNone(t, "64 bytes 0", make([]byte, 64))
}

// P9.2, P9.3: what was put is got.
func TestPutAndGet(t *testing.T) {
	for _, a := range rightOnes() {
		b, e := attr.Put(a)
		if e != api.OK || !bytes.Equal(b, wire(a)) {
			t.Errorf("Put(%v): %v, %d", a, b, e)
		}
		if c, ok := attr.Get(wire(a)); c != a || !ok {
			t.Errorf("Get of Put(%v): %v, %v", a, c, ok)
		}
	}
}

// P9.2: ErrArg, and no bytes, of those that are not right.
func TestPutWrong(t *testing.T) {
	for _, a := range wrongOnes() {
		if b, e := attr.Put(a); e != api.ErrArg || len(b) != 0 {
			t.Errorf("Put(%.40v): %v, %d", a, b, e)
		}
	}
}

// mustBeNone wants zero attributes, and false.
func mustBeNone(t *testing.T, why string, b []byte) {
	t.Helper()
	if a, ok := attr.Get(b); a != (api.Attr{}) || ok {
		t.Errorf("%s: Get of %d bytes: %v, %v", why, len(b), a, ok)
	}
}

// P9.2: any other length than 64, 63 and 65 among them.
func TestGetLengths(t *testing.T) {
	mustBeNone(t, "nothing", nil)
	for _, first := range [][]byte{make([]byte, 64), wire(api.Attr{}), wire(full(31)), wire(api.Attr{Has: 2, Redirect: longest})} {
		long := append(bytes.Clone(first), make([]byte, 100)...)
		for n := range long {
			if n != 64 {
				mustBeNone(t, "another length", long[:n])
			}
		}
		mustBeNone(t, "a byte ahead", append([]byte{0}, first...))
		mustBeNone(t, "without the first byte", first[1:])
		mustBeNone(t, "twice", append(bytes.Clone(first), first...))
	}
	for n := range 64 {
		b := make([]byte, n)
		mustBeNone(t, "a sum behind fewer bytes", binary.LittleEndian.AppendUint32(b, adler32.Checksum(b))[:min(n+4, 63)])
	}
}

// P9.2: each byte changed to each other value: the seal does not fit.
func TestGetChanged(t *testing.T) {
	for _, first := range [][]byte{make([]byte, 64), wire(api.Attr{}), wire(full(31)), wire(full(2)), wire(api.Attr{Has: 2, Redirect: longest})} {
		b := bytes.Clone(first)
		for at := range b {
			for x := 1; x < 256; x++ {
				b[at] = first[at] ^ byte(x)
				mustBeNone(t, "a byte changed", b)
			}
			b[at] = first[at]
		}
	}
	mustBeNone(t, "64 bytes 255", bytes.Repeat([]byte{255}, 64))
}

// P9.2: sealed bytes of numbers that are not right.
func TestGetSealedWrong(t *testing.T) {
	for _, a := range []api.Attr{
		{Has: 32}, {Has: 255}, {Has: 128}, {Has: 63, Redirect: "a"},
		{Opaque: 1}, {Opaque: 255}, {Has: 30, Opaque: 1, Redirect: "a"},
		{Has: 2}, {Has: 31}, {Redirect: "a"}, {Has: 29, Redirect: "a"}, {Redirect: longest},
		{Origin: api.Origin{Layer: 1}}, {Origin: api.Origin{Ino: 1}}, {Origin: api.Origin{Ino: 256}}, {Origin: api.Origin{Gen: 1}},
		{Has: 27, Redirect: "a", Origin: api.Origin{Layer: 255}},
		{Has: 4, Origin: api.Origin{Gen: 1 << 28}}, {Has: 4, Origin: api.Origin{Gen: 1<<32 - 1}},
		{Shown: 1}, {Shown: 256}, {Has: 23, Redirect: "a", Shown: 1},
	} {
		mustBeNone(t, "sealed", wire(a))
	}
	mustBeNone(t, "bytes 255, sealed", sealed(bytes.Repeat([]byte{255}, 60)))
}

// P9.2: sealed bytes of a redirect: bytes behind its end that are not 0, and lengths that it may not have.
func TestGetSealedRedirects(t *testing.T) {
	for n := 1; n < 24; n++ {
		b := wire(api.Attr{Has: 2, Redirect: longest[:n]})
		for at := 3 + n; at < 27; at++ {
			mustBeNone(t, "a byte behind a Redirect's end", resealed(b, at, 1))
			mustBeNone(t, "a byte behind a Redirect's end", resealed(b, at, 255))
		}
		if a, ok := attr.Get(resealed(b, 2, byte(n+1))); a.Redirect != longest[:n]+"\x00" || !ok {
			t.Errorf("a length of one more than %d: %v, %v", n, a, ok)
		}
		mustBeNone(t, "a length of one less", resealed(b, 2, byte(n-1)))
	}
	for at := 3; at < 27; at++ {
		mustBeNone(t, "a byte of no Redirect", resealed(wire(api.Attr{}), at, 1))
		mustBeNone(t, "a byte of no Redirect", resealed(wire(full(29)), at, 'a'))
	}
	for _, first := range []api.Attr{{Has: 2, Redirect: longest}, {Has: 2, Redirect: strings.Repeat("\x00", 24)}, full(31)} {
		for n := 25; n < 256; n++ {
			mustBeNone(t, "a length beyond 24", resealed(wire(first), 2, byte(n)))
		}
		mustBeNone(t, "a length of 0", resealed(wire(first), 2, 0))
	}
	mustBeNone(t, "a length without HasRedirect", resealed(wire(api.Attr{}), 2, 1))
}

// P9.2: sealed bytes behind the parts, that are not spoken of.
func TestGetSealedBehind(t *testing.T) {
	for at := 36; at < 60; at++ {
		for _, a := range []api.Attr{{}, full(31)} {
			mustBeNone(t, "a byte that is not spoken of", resealed(wire(a), at, 1))
			mustBeNone(t, "a byte that is not spoken of", resealed(wire(a), at, 255))
		}
	}
}

// P9.2, P9.3: whatever bytes are sealed: those that are got are those that are put, and what isn't got is of no right ones.
func TestGetSealedAny(t *testing.T) {
	x := uint32(1)
	next := func(n int) byte {
		x = x*1664525 + 1013904223
		return byte(int(x>>8) % n)
	}
	got, none := 0, 0
	for range 40000 {
		b := make([]byte, 60)
		b[0] = next(33)
		for at := 1; at < 36; at++ {
			if next(3) != 0 { // bytes 0 are many, or hardly any attributes would be right
				continue
			}
			b[at] = next(256)
		}
		if b[2] = next(27); next(2) == 0 {
			clear(b[3+min(int(b[2]), 24) : 27])
		}
		if next(2) == 0 {
			b = bytes.Clone(wire(read(b)))
		}
		b = sealed(b)
		want := read(b)
		right := attr.Right(want) && bytes.Equal(b, wire(want))
		if !right {
			want = api.Attr{}
		}
		a, ok := attr.Get(b)
		if ok != right || a != want {
			t.Fatalf("Get of %v: %v, %v", b, a, ok)
		}
		if !ok {
			none++
			continue
		}
		got++
		if c, e := attr.Put(a); e != api.OK || !bytes.Equal(c, b) {
			t.Fatalf("Put of Get of %v: %v, %d", b, c, e)
		}
	}
	if got < 100 || none < 100 {
		t.Errorf("%d were got, %d not", got, none)
	}
}

// read is what a block's bytes tell, by the library.
func read(b []byte) api.Attr {
	return api.Attr{
		Has: int(b[0]), Opaque: int(b[1]), Redirect: string(b[3 : 3+min(int(b[2]), 24)]),
		Origin: api.Origin{Layer: int(b[27]), Ino: int(binary.LittleEndian.Uint16(b[28:])), Gen: int(binary.LittleEndian.Uint32(b[30:]))},
		Shown:  int(binary.LittleEndian.Uint16(b[34:])),
	}
}

// dropped is a without the bits of has, bit by bit, and without what goes with each.
func dropped(a api.Attr, has int) api.Attr {
	for i := range 64 {
		bit := 1 << i
		if has&bit == 0 {
			continue
		}
		if a.Has&bit != 0 {
			a.Has ^= bit
		}
		switch bit {
		case api.HasOpaque:
			a.Opaque = 0
		case api.HasRedirect:
			a.Redirect = ""
		case api.HasOrigin:
			a.Origin = api.Origin{}
		case api.HasShown:
			a.Shown = 0
		}
	}
	return a
}

// P9.2: Drop of none, of each bit alone, of all, of bits beyond 31, and of numbers below 0.
func TestDropEdges(t *testing.T) {
	all := full(31)
	for _, c := range []struct {
		why  string
		has  int
		want api.Attr
	}{
		{"none", 0, all},
		{"HasOpaque", 1, api.Attr{Has: 30, Redirect: all.Redirect, Origin: all.Origin, Shown: all.Shown}},
		{"HasRedirect", 2, api.Attr{Has: 29, Opaque: all.Opaque, Origin: all.Origin, Shown: all.Shown}},
		{"HasOrigin", 4, api.Attr{Has: 27, Opaque: all.Opaque, Redirect: all.Redirect, Shown: all.Shown}},
		{"HasShown", 8, api.Attr{Has: 23, Opaque: all.Opaque, Redirect: all.Redirect, Origin: all.Origin}},
		{"HasMeta", 16, api.Attr{Has: 15, Opaque: all.Opaque, Redirect: all.Redirect, Origin: all.Origin, Shown: all.Shown}},
		{"HasRedirect and HasShown", 10, api.Attr{Has: 21, Opaque: all.Opaque, Origin: all.Origin}},
		{"all", 31, api.Attr{}},
		{"all, and bits beyond", 1<<20 | 63, api.Attr{}},
		{"a bit beyond", 32, all},
		{"bits beyond", 1<<40 | 64, all},
		{"HasOpaque, and a bit beyond", 33, api.Attr{Has: 30, Redirect: all.Redirect, Origin: all.Origin, Shown: all.Shown}},
		{"-1, which has all bits", -1, api.Attr{}},
		{"-32, which has none of these", -32, all},
		{"-31, which has the lowest", -31, api.Attr{Has: 30, Redirect: all.Redirect, Origin: all.Origin, Shown: all.Shown}},
		{"-2, which lacks the lowest", -2, api.Attr{Has: 1, Opaque: all.Opaque}},
		{"the least number", math.MinInt, all},
		{"the greatest number", math.MaxInt, api.Attr{}},
	} {
		if got := attr.Drop(all, c.has); got != c.want {
			t.Errorf("Drop of %s: %v", c.why, got)
		}
	}
}

func someBits() []int {
	l := []int{math.MinInt, math.MinInt + 5, -1 << 32, -33, -32, -31, -3, -2, -1, 1<<32 + 9, math.MaxInt - 1, math.MaxInt}
	for has := range 70 {
		l = append(l, has)
	}
	for i := range 63 {
		l = append(l, 1<<i)
	}
	return l
}

// P9.2: a without what the bits say, and nothing else, whether it is right or not.
func TestDrop(t *testing.T) {
	first := []api.Attr{{Has: -1, Opaque: 1, Redirect: longest + longest, Origin: api.Origin{Layer: -1, Ino: 1 << 40, Gen: 3}, Shown: -5},
		{Opaque: 5, Redirect: "x", Origin: api.Origin{Layer: 1}, Shown: 2},
		{Has: math.MinInt}, {Has: math.MaxInt, Shown: math.MaxInt}, {Has: 1<<40 | 2}, {Has: 32, Opaque: 300}}
	for has := range 32 {
		first = append(first, full(has), bare(has))
	}
	for _, a := range first {
		for _, has := range someBits() {
			if got := attr.Drop(a, has); got != dropped(a, has) {
				t.Errorf("Drop(%v, %d): %v", a, has, got)
			}
		}
	}
}

// P9.3: Drop of a Right one is Right; nothing more goes by a second one.
func TestDropOfRight(t *testing.T) {
	for _, a := range rightOnes() {
		for _, has := range someBits() {
			b := attr.Drop(a, has)
			if !attr.Right(b) {
				t.Fatalf("Drop(%v, %d) isn't right: %v", a, has, b)
			}
			if again := attr.Drop(b, has); again != b {
				t.Fatalf("Drop(%v, %d) again: %v", a, has, again)
			}
		}
	}
}

// The answers share no memory with what was handed in, nor with each other, and what was handed in stays as it is.
func TestAnswersShareNothing(t *testing.T) {
	for _, a := range []api.Attr{{}, full(31), {Has: 2, Redirect: longest}} {
		first, _ := attr.Put(a)
		second, _ := attr.Put(a)
		want := bytes.Clone(first)
		second = second[:cap(second)]
		for i := range second {
			second[i] ^= 0xff
		}
		if again, _ := attr.Put(a); !bytes.Equal(first, want) || !bytes.Equal(again, want) {
			t.Errorf("two answers of Put(%v) share", a)
		}
	}
	whole := append(wire(full(31)), bytes.Repeat([]byte{7}, 64)...)
	before := bytes.Clone(whole)
	a, _ := attr.Get(whole[:64])
	attr.Get(whole[:63])
	attr.Get(whole)
	if !bytes.Equal(whole, before) {
		t.Error("what was handed in is changed")
	}
	clear(whole)
	if a != full(31) {
		t.Errorf("Get shares with what was handed in: %v", a)
	}
	b := full(31)
	if attr.Drop(b, 31); b != full(31) {
		t.Errorf("Drop changes what it is handed: %v", b)
	}
}
