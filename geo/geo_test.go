package geo_test

import (
	"bytes"
	"encoding/binary"
	"hash/adler32"
	"math"
	"testing"

	"craquelure/api"
	"craquelure/geo"
)

// right tells whether a layout may be, by the limits as the document writes them.
func right(g api.Geo) bool {
	return 1 <= g.Lowers && g.Lowers <= 3 && 4 <= g.Inodes && g.Inodes <= 24 &&
		1 <= g.Blocks && g.Blocks <= 60 && 1 <= g.Log && g.Log <= 64
}

// around is numbers at a limit, beyond it, and far from it; those that are right by their lowest byte alone are among them.
func around(least, greatest int) []int {
	return []int{least, least + 1, greatest - 1, greatest, least - 1, greatest + 1, -1, -least, 255, 256, 256 + least, 1<<32 + least, math.MinInt, math.MaxInt}
}

func layouts(lowers, inodes, blocks, logs []int) []api.Geo {
	var l []api.Geo
	for _, a := range lowers {
		for _, b := range inodes {
			for _, c := range blocks {
				for _, d := range logs {
					l = append(l, api.Geo{Lowers: a, Inodes: b, Blocks: c, Log: d})
				}
			}
		}
	}
	return l
}

// anyLayouts is layouts that may be, and may not.
func anyLayouts() []api.Geo {
	return layouts(around(1, 3), around(4, 24), around(1, 60), around(1, 64))
}

// someLayouts is layouts that may be, those at the limits among them.
func someLayouts() []api.Geo {
	return layouts([]int{1, 2, 3}, []int{4, 5, 13, 24}, []int{1, 2, 31, 60}, []int{1, 2, 7, 63, 64})
}

// wrongLayouts is layouts of which one number alone is wrong.
func wrongLayouts() []api.Geo {
	return []api.Geo{
		{},
		{Lowers: 0, Inodes: 4, Blocks: 1, Log: 1},
		{Lowers: 4, Inodes: 4, Blocks: 1, Log: 1},
		{Lowers: 1, Inodes: 3, Blocks: 1, Log: 1},
		{Lowers: 1, Inodes: 25, Blocks: 1, Log: 1},
		{Lowers: 1, Inodes: 4, Blocks: 0, Log: 1},
		{Lowers: 1, Inodes: 4, Blocks: 61, Log: 1},
		{Lowers: 1, Inodes: 4, Blocks: 1, Log: 0},
		{Lowers: 1, Inodes: 4, Blocks: 1, Log: 65},
		{Lowers: -1, Inodes: 4, Blocks: 1, Log: 1},
		{Lowers: 1, Inodes: -4, Blocks: 1, Log: 1},
		{Lowers: 1, Inodes: 4, Blocks: -1, Log: 1},
		{Lowers: 1, Inodes: 4, Blocks: 1, Log: -1},
		{Lowers: math.MaxInt, Inodes: math.MaxInt, Blocks: math.MaxInt, Log: math.MaxInt},
		{Lowers: math.MinInt, Inodes: math.MinInt, Blocks: math.MinInt, Log: math.MinInt},
	}
}

// sealed is 64 bytes: those of b, bytes 0, and the library's sum of the first 60.
func sealed(b ...byte) []byte {
	l := make([]byte, 60)
	copy(l, b)
	return binary.LittleEndian.AppendUint32(l, adler32.Checksum(l))
}

// head is the sector that tells a layout.
func head(g api.Geo) []byte {
	return sealed(82, 84, 66, 76, 1, byte(g.Lowers), byte(g.Inodes), byte(g.Blocks), byte(g.Log))
}

// image is a head, and bytes behind it up to so many sectors.
func image(first []byte, sectors int) []byte {
	b := bytes.Repeat([]byte{0xa5}, max(64, 64*sectors))
	copy(b, first)
	return b
}

// what a sector is: of which layer, and the first of the log.
type what struct {
	layer, ino, block int
	bitmap, log       bool
}

// plan goes through an image sector by sector, and says what each one is.
func plan(g api.Geo) []what {
	l := []what{{layer: -1}}
	for n := 1; n <= g.Lowers+1; n++ {
		layer := n % (g.Lowers + 1)
		l = append(l, what{layer: layer, bitmap: true})
		for ino := 1; ino <= g.Inodes; ino++ {
			l = append(l, what{layer: layer, ino: ino})
		}
		for block := 0; block < g.Blocks; block++ {
			l = append(l, what{layer: layer, block: block + 1})
		}
	}
	for range g.Log {
		l = append(l, what{layer: -1, log: true})
	}
	return l
}

// P6.1: Lowers 1 to 3, Inodes 4 to 24, Blocks 1 to 60, Log 1 to 64.
func TestCheck(t *testing.T) {
	for _, g := range append(anyLayouts(), wrongLayouts()...) {
		want := api.ErrArg
		if right(g) {
			want = api.OK
		}
		if got := geo.Check(g); got != want {
			t.Errorf("Check(%v): %d", g, got)
		}
	}
}

// P6.1: sectors as the layers need, one that tells the layout, and the log; 0 of a layout that may not be.
func TestTotalExamples(t *testing.T) {
	for g, want := range map[api.Geo]int{
		{Lowers: 1, Inodes: 4, Blocks: 2, Log: 3}:    18,
		{Lowers: 1, Inodes: 4, Blocks: 1, Log: 1}:    14,
		{Lowers: 3, Inodes: 24, Blocks: 60, Log: 64}: 405,
		{Lowers: 2, Inodes: 10, Blocks: 20, Log: 5}:  99,
		{Lowers: 0, Inodes: 4, Blocks: 2, Log: 3}:    0,
		{Lowers: 4, Inodes: 4, Blocks: 2, Log: 3}:    0,
		{Lowers: 1, Inodes: 3, Blocks: 2, Log: 3}:    0,
		{Lowers: 1, Inodes: 25, Blocks: 2, Log: 3}:   0,
		{Lowers: 1, Inodes: 4, Blocks: 0, Log: 3}:    0,
		{Lowers: 1, Inodes: 4, Blocks: 61, Log: 3}:   0,
		{Lowers: 1, Inodes: 4, Blocks: 2, Log: 0}:    0,
		{Lowers: 1, Inodes: 4, Blocks: 2, Log: 65}:   0,
	} {
		if got := geo.Total(g); got != want {
			t.Errorf("Total(%v): %d", g, got)
		}
	}
}

// P6.1: as many as the sectors that are gone through.
func TestTotal(t *testing.T) {
	for _, g := range anyLayouts() {
		want := 0
		if right(g) {
			want = len(plan(g))
		}
		if got := geo.Total(g); got != want {
			t.Errorf("Total(%v): %d, and not %d", g, got, want)
		}
	}
}

// P6.2: 82, 84, 66, 76, 1, the numbers, bytes 0, and their sum.
func TestPutExample(t *testing.T) {
	want := make([]byte, 64)
	copy(want, []byte{82, 84, 66, 76, 1, 1, 4, 2, 3})
	binary.LittleEndian.PutUint32(want[60:], adler32.Checksum(want[:60]))
	if got, e := geo.Put(api.Geo{Lowers: 1, Inodes: 4, Blocks: 2, Log: 3}); e != api.OK || !bytes.Equal(got, want) {
		t.Errorf("Put: %v, %d", got, e)
	}
}

// P6.2: ErrArg, and nothing, of a layout that may not be.
func TestPut(t *testing.T) {
	for _, g := range append(anyLayouts(), wrongLayouts()...) {
		got, e := geo.Put(g)
		if right(g) && (e != api.OK || !bytes.Equal(got, head(g))) {
			t.Errorf("Put(%v): %v, %d", g, got, e)
		}
		if !right(g) && (e != api.ErrArg || len(got) != 0) {
			t.Errorf("Put(%v): %v, %d", g, got, e)
		}
	}
}

// mustBeNone wants ErrForm, and no layout.
func mustBeNone(t *testing.T, why string, b []byte) {
	t.Helper()
	if g, e := geo.Get(b); g != (api.Geo{}) || e != api.ErrForm {
		t.Errorf("%s: Get of %d bytes: %v, %d", why, len(b), g, e)
	}
}

// P6.2: what Put lays, and just so many sectors, are a layout, whatever lies behind the first one.
func TestGet(t *testing.T) {
	for _, g := range someLayouts() {
		first, _ := geo.Put(g)
		b := image(first, len(plan(g)))
		if got, e := geo.Get(b); got != g || e != api.OK {
			t.Errorf("Get of %v: %v, %d", g, got, e)
		}
		for at := 64; at < len(b); at++ {
			b[at] = byte(at)
		}
		if got, e := geo.Get(b); got != g || e != api.OK {
			t.Errorf("Get of %v, and other bytes: %v, %d", g, got, e)
		}
	}
}

// P6.2: fewer and more bytes than Total sectors.
func TestGetLengths(t *testing.T) {
	for _, g := range someLayouts() {
		n := 64 * len(plan(g))
		whole := image(head(g), len(plan(g))+2)
		for _, m := range []int{0, 1, 5, 8, 9, 59, 60, 63, 64, 65, 128, n / 2, n - 65, n - 64, n - 63, n - 1, n + 1, n + 63, n + 64, n + 65, n + 128} {
			mustBeNone(t, "another length", whole[:m])
		}
	}
	mustBeNone(t, "nothing", nil)
	g := api.Geo{Lowers: 1, Inodes: 4, Blocks: 2, Log: 3}
	whole := image(head(g), 40)
	for m := range whole {
		if m != 64*18 {
			mustBeNone(t, "another length", whole[:m])
		}
	}
}

// P6.2: each byte of the first sector, changed to each other value.
func TestGetChanged(t *testing.T) {
	g := api.Geo{Lowers: 2, Inodes: 6, Blocks: 9, Log: 5}
	b := image(head(g), len(plan(g)))
	for at := range 64 {
		for x := 1; x < 256; x++ {
			b[at] ^= byte(x)
			mustBeNone(t, "a byte changed", b)
			b[at] ^= byte(x)
		}
	}
	if got, e := geo.Get(b); got != g || e != api.OK {
		t.Errorf("Get behind all: %v, %d", got, e)
	}
}

// P6.2: bytes that are sealed, and not as Put lays them.
func TestGetOtherHeads(t *testing.T) {
	g := api.Geo{Lowers: 1, Inodes: 4, Blocks: 2, Log: 3}
	n := len(plan(g))
	for at := range 5 {
		for x := range 256 {
			first := []byte{82, 84, 66, 76, 1, 1, 4, 2, 3}
			if first[at] == byte(x) {
				continue
			}
			first[at] = byte(x)
			mustBeNone(t, "another mark", image(sealed(first...), n))
		}
	}
	for at := 9; at < 60; at++ {
		first := make([]byte, 60)
		copy(first, head(g))
		first[at] = 1
		mustBeNone(t, "a byte that is not 0", image(sealed(first...), n))
	}
	mustBeNone(t, "bytes 0", make([]byte, 64*n))
	mustBeNone(t, "bytes 0, sealed", image(sealed(), n))
	mustBeNone(t, "one sector", head(g))
	mustBeNone(t, "another kind of log", image(sealed(74, 82, 78, 76, 0), n))
	mustBeNone(t, "a head behind the first sector", append(make([]byte, 64), image(head(g), n-1)...))
	mustBeNone(t, "a head without its sum", image(append(head(g)[:60:60], 0, 0, 0, 0), n))
}

// P6.2: heads of layouts that may not be, with as many sectors as these would need, and other lengths.
func TestGetWrongLayouts(t *testing.T) {
	for _, g := range wrongLayouts()[:9] {
		for n := range 120 {
			mustBeNone(t, "a wrong layout", image(head(g), n))
		}
		mustBeNone(t, "a wrong layout", image(head(g), len(plan(g))))
	}
}

// P6.2: an image that tells another layout than that whose sectors it has; one of as many sectors tells itself.
func TestGetAnotherLayout(t *testing.T) {
	l := someLayouts()
	for i, g := range l {
		other := l[(i+7)%len(l)]
		b := image(head(g), len(plan(other)))
		if len(plan(other)) != len(plan(g)) {
			mustBeNone(t, "another layout's length", b)
		} else if got, e := geo.Get(b); got != g || e != api.OK {
			t.Errorf("Get: %v, %d", got, e)
		}
	}
	x, y := api.Geo{Lowers: 1, Inodes: 5, Blocks: 4, Log: 3}, api.Geo{Lowers: 1, Inodes: 4, Blocks: 5, Log: 3}
	if got, e := geo.Get(image(head(x), len(plan(y)))); got != x || e != api.OK {
		t.Errorf("Get of one of two of as many sectors: %v, %d", got, e)
	}
}

// P6.3: the example: the bitmaps are 1 and 8; the log begins at 15.
func TestSectorsExample(t *testing.T) {
	g := api.Geo{Lowers: 1, Inodes: 4, Blocks: 2, Log: 3}
	for _, c := range []struct {
		what      string
		got, want int
	}{
		{"bitmap of 1", geo.Bitmap(g, 1), 1},
		{"bitmap of 0", geo.Bitmap(g, 0), 8},
		{"inode 1 of 1", geo.Inode(g, 1, 1), 2},
		{"inode 4 of 1", geo.Inode(g, 1, 4), 5},
		{"block 0 of 1", geo.Block(g, 1, 0), 6},
		{"block 1 of 1", geo.Block(g, 1, 1), 7},
		{"inode 1 of 0", geo.Inode(g, 0, 1), 9},
		{"inode 4 of 0", geo.Inode(g, 0, 4), 12},
		{"block 0 of 0", geo.Block(g, 0, 0), 13},
		{"block 1 of 0", geo.Block(g, 0, 1), 14},
		{"log", geo.Log(g), 15},
		{"layer 2", geo.Bitmap(g, 2), -1},
		{"layer -1", geo.Bitmap(g, -1), -1},
		{"inode 0", geo.Inode(g, 0, 0), -1},
		{"inode 5", geo.Inode(g, 0, 5), -1},
		{"inode of layer 2", geo.Inode(g, 2, 1), -1},
		{"block -1", geo.Block(g, 0, -1), -1},
		{"block 2", geo.Block(g, 0, 2), -1},
		{"block of layer -1", geo.Block(g, -1, 0), -1},
	} {
		if c.got != c.want {
			t.Errorf("%s: %d, and not %d", c.what, c.got, c.want)
		}
	}
	for sector := -2; sector < 21; sector++ {
		if got := geo.Upper(g, sector); got != (sector >= 8 && sector < 15) {
			t.Errorf("Upper of %d: %v", sector, got)
		}
	}
}

// P6.3, P6.4: sector by sector: each one but the first is what is told, and of just one kind; the upper ones are those of layer 0.
func TestSectors(t *testing.T) {
	for _, g := range someLayouts() {
		l := plan(g)
		first := true
		for at, w := range l {
			got := at
			switch {
			case w.bitmap:
				got = geo.Bitmap(g, w.layer)
			case w.ino > 0:
				got = geo.Inode(g, w.layer, w.ino)
			case w.block > 0:
				got = geo.Block(g, w.layer, w.block-1)
			case w.log && first:
				got, first = geo.Log(g), false
			}
			if got != at {
				t.Fatalf("%v: %v: sector %d, and not %d", g, w, got, at)
			}
			if up := geo.Upper(g, at); up != (w.layer == 0) {
				t.Fatalf("%v: Upper of %d: %v", g, at, up)
			}
		}
	}
}

// P6.4: no two are one sector, and with the log they are all of an image but the first one.
func TestSectorsAreApart(t *testing.T) {
	for _, g := range someLayouts() {
		seen := map[int]int{}
		for layer := range g.Lowers + 1 {
			seen[geo.Bitmap(g, layer)]++
			for ino := 1; ino <= g.Inodes; ino++ {
				seen[geo.Inode(g, layer, ino)]++
			}
			for block := range g.Blocks {
				seen[geo.Block(g, layer, block)]++
			}
		}
		for i := range g.Log {
			seen[geo.Log(g)+i]++
		}
		if len(seen) != geo.Total(g)-1 {
			t.Errorf("%v: %d sectors", g, len(seen))
		}
		for at := 1; at < geo.Total(g); at++ {
			if seen[at] != 1 {
				t.Errorf("%v: sector %d is %d of them", g, at, seen[at])
			}
		}
	}
}

// beyond is numbers below the first and behind the last one.
func beyond(least, greatest int) []int {
	return []int{math.MinInt, math.MinInt + 1, -64, -2, least - 1, greatest + 1, greatest + 2, greatest + 64, 1 << 32, math.MaxInt - 1, math.MaxInt}
}

// P6.3: layers, inodes, blocks and sectors below the first and behind the last one.
func TestThereIsNone(t *testing.T) {
	for _, g := range someLayouts() {
		for _, layer := range beyond(0, g.Lowers) {
			if got := geo.Bitmap(g, layer); got != -1 {
				t.Errorf("%v: Bitmap(%d): %d", g, layer, got)
			}
			for _, i := range []int{math.MinInt, -1, 0, 1, 2, math.MaxInt} {
				if x, y := geo.Inode(g, layer, i), geo.Block(g, layer, i); x != -1 || y != -1 {
					t.Errorf("%v: Inode, Block(%d, %d): %d, %d", g, layer, i, x, y)
				}
			}
		}
		for layer := range g.Lowers + 1 {
			for _, ino := range append(beyond(1, g.Inodes), 0) {
				if got := geo.Inode(g, layer, ino); got != -1 {
					t.Errorf("%v: Inode(%d, %d): %d", g, layer, ino, got)
				}
			}
			for _, block := range beyond(0, g.Blocks-1) {
				if got := geo.Block(g, layer, block); got != -1 {
					t.Errorf("%v: Block(%d, %d): %d", g, layer, block, got)
				}
			}
		}
		for _, sector := range append(beyond(0, len(plan(g))-1), 0) {
			if geo.Upper(g, sector) {
				t.Errorf("%v: Upper of %d", g, sector)
			}
		}
	}
}

// P6.3: -1, and no, if Check is not OK.
func TestSectorsOfWrongLayouts(t *testing.T) {
	for _, g := range append(anyLayouts(), wrongLayouts()...) {
		if right(g) {
			continue
		}
		for i := -2; i < 30; i++ {
			for _, got := range []int{geo.Bitmap(g, i), geo.Inode(g, 0, i), geo.Block(g, 0, i), geo.Inode(g, i, 1), geo.Block(g, i, 0), geo.Log(g)} {
				if got != -1 {
					t.Fatalf("%v, %d: %d", g, i, got)
				}
			}
			if geo.Upper(g, i) {
				t.Fatalf("%v: Upper of %d", g, i)
			}
		}
	}
}

// Put's answers share no memory with one another; what is handed to Get stays.
func TestAnswersShareNothing(t *testing.T) {
	g := api.Geo{Lowers: 1, Inodes: 4, Blocks: 2, Log: 3}
	x, _ := geo.Put(g)
	y, _ := geo.Put(g)
	for i := range x[:cap(x)] {
		x[:cap(x)][i] ^= 0xff
	}
	if z, _ := geo.Put(g); !bytes.Equal(y, head(g)) || !bytes.Equal(z, head(g)) {
		t.Error("two answers share")
	}
	b := image(head(g), 19)
	before := bytes.Clone(b)
	geo.Get(b[:64*18])
	geo.Get(b)
	geo.Get(b[:64])
	if !bytes.Equal(b, before) {
		t.Error("what was handed in is changed")
	}
}
