package measure_test

import (
	"bytes"
	"math"
	"math/rand"
	"slices"
	"testing"

	"craquelure/api"
	"craquelure/attr"
	"craquelure/entry"
	"craquelure/fix"
	"craquelure/geo"
	"craquelure/inode"
	"craquelure/inv"
	"craquelure/measure"
	"craquelure/sample"
)

var layout = api.Geo{Lowers: 2, Inodes: 8, Blocks: 20, Log: 5}

// bare is an image of empty layers: three empty directories in the upper one.
func bare(t *testing.T) []byte {
	t.Helper()
	root := api.Branch{Nodes: []api.Node{sample.Node(api.Dir, 2)}}
	up := api.Branch{Nodes: slices.Repeat([]api.Node{sample.Node(api.Dir, 2)}, 3)}
	b := sample.Image(api.Stack{Geo: layout, Upper: up, Lowers: []api.Branch{root, root}})
	if !inv.Clean(b) {
		t.Fatal("something is wrong with the image")
	}
	return b
}

// put is the image, in which an upper inode is x.
func put(t *testing.T, b []byte, ino int, x api.Inode) []byte {
	t.Helper()
	c, e := inode.Put(x)
	if e != api.OK {
		t.Fatal(x)
	}
	return sample.Lay(b, geo.Inode(layout, 0, ino), c)
}

// block is the image, in which the upper block that a pointer n names is this one.
func block(b []byte, n int, c []byte) []byte {
	return sample.Lay(b, geo.Block(layout, 0, n-1), c)
}

// attributes is the image, in which that block has these.
func attributes(t *testing.T, b []byte, n int, a api.Attr) []byte {
	t.Helper()
	c, e := attr.Put(a)
	if e != api.OK {
		t.Fatal(a)
	}
	return block(b, n, c)
}

// mustAway wants the real part, whatever is found in the image.
func mustAway(t *testing.T, why string, b []byte, want float64) {
	t.Helper()
	before := bytes.Clone(b)
	if got := real(measure.Of(b)); got != want {
		t.Errorf("%s: %v, not %v", why, got, want)
	}
	if !bytes.Equal(b, before) {
		t.Fatalf("%s: the image is changed", why)
	}
}

func mustBe(t *testing.T, why string, b []byte, want complex128) {
	t.Helper()
	if got := measure.Of(b); got != want {
		t.Errorf("%s: %v, not %v", why, got, want)
	}
}

// The chapter's example.
func TestExample(t *testing.T) {
	if !measure.Less(1+5i, 2) {
		t.Error("1 + 5i is not less than 2")
	}
}

// P29.1: images without findings: nothing is to be put right.
func TestClean(t *testing.T) {
	mustBe(t, "three empty directories", bare(t), 6)
	full := 2*9 + 8*9 + (1 + 1) + 2 + 8 // inodes; pointers; attributes; a redirect; entries
	mustBe(t, "full", sample.Image(sample.Full()), complex(float64(full), 0))
	r := rand.New(rand.NewSource(2))
	for range 100 {
		g := api.Geo{Lowers: 1 + r.Intn(3), Inodes: 4 + r.Intn(10), Blocks: 60, Log: 1 + r.Intn(64)}
		b := sample.Image(sample.Stack(g, r.Intn))
		mustBe(t, "any stack", b, complex(real(weigh(b)), 0))
	}
}

// P29.1: each of Root, Work, Index that is no Dir: one that is free, none, or of another kind.
func TestSpecial(t *testing.T) {
	b := bare(t)
	for ino := api.Root; ino <= api.Index; ino++ {
		mustAway(t, "free", put(t, b, ino, api.Inode{}), 4+300)
		mustAway(t, "none", sample.Lay(b, geo.Inode(layout, 0, ino), sample.Garbage()), 4+300+1)
		for _, kind := range []int{api.File, api.Link, api.White} {
			mustAway(t, "another kind", put(t, b, ino, api.Inode{Kind: kind}), 4+300+2)
		}
		mustAway(t, "a Dir that says something else", put(t, b, ino, api.Inode{Kind: api.Dir, Nlink: 9, Impure: 5, Gen: 7}), 6)
	}
	mustAway(t, "two", put(t, put(t, b, api.Root, api.Inode{}), api.Index, api.Inode{}), 2+600)
	mustAway(t, "a common inode", put(t, b, api.Index+1, api.Inode{Kind: api.File}), 6+2)
	g := layout
	for at := geo.Bitmap(g, 0); at < geo.Log(g); at++ {
		b = sample.Lay(b, at, make([]byte, 64))
	}
	mustBe(t, "bytes 0", b, 900)
}

// P29.1: each inode that is none, the first and the last one among them.
func TestNone(t *testing.T) {
	b := bare(t)
	for i, ino := range []int{layout.Inodes, api.Index + 1, 6} {
		b = sample.Lay(b, geo.Inode(layout, 0, ino), sample.Garbage())
		mustBe(t, "none", b, complex(float64(6+i+1), 0))
	}
	b = sample.Lay(b, geo.Inode(layout, 0, 6), make([]byte, 64))
	mustBe(t, "one is free again", b, 6+2)
}

// P29.1: each inode that is not free, of each kind.
func TestLive(t *testing.T) {
	b := bare(t)
	for i, kind := range []int{api.Dir, api.File, api.Link, api.White} {
		b = put(t, b, 4+i, api.Inode{Kind: kind, Nlink: kind})
		mustBe(t, "live", b, complex(float64(6+2*(i+1)), 0))
	}
	b = put(t, b, layout.Inodes, api.Inode{Kind: api.File, Size: 256, Gen: api.MaxGen})
	mustBe(t, "the last one", b, 6+2*5)
}

// P29.1: each of the five pointers, alone and together; ones that count, that name what another one names, and that name nothing that is there.
func TestPointers(t *testing.T) {
	b := bare(t)
	for _, n := range []int{1, layout.Blocks, layout.Blocks + 1, api.MaxCount} {
		for set := range 32 {
			x := api.Inode{Kind: api.File}
			want := 8.0
			for k := range x.Ptr {
				if set>>k&1 == 1 {
					x.Ptr[k] = n
					want += 8
				}
			}
			if set>>4 == 1 {
				x.Attr = n
				want += 8
			}
			mustAway(t, "a File", put(t, b, 4, x), want)
			mustAway(t, "two Files", put(t, put(t, b, 4, x), layout.Inodes, x), 2*want-6)
			x.Kind = api.Dir
			mustAway(t, "a Dir", put(t, b, 4, x), want)
			mustAway(t, "Work", put(t, b, api.Work, x), want-2)
			x.Kind, x.Ptr = api.White, [4]int{}
			mustAway(t, "a White", put(t, b, 4, x), 8+8*float64(set>>4))
		}
	}
}

// has is attributes that have what these bits say.
func has(bits int) api.Attr {
	a := api.Attr{Has: api.HasOpaque | api.HasRedirect | api.HasOrigin | api.HasShown | api.HasMeta, Opaque: api.Mark, Redirect: "/a", Origin: api.Origin{Layer: 1, Ino: 1, Gen: 1}, Shown: 1}
	return attr.Drop(a, ^bits)
}

// P29.1: 2 for a redirect, 1 each for a marker, an origin, and bytes elsewhere, nothing for how many names are shown; alone and together, of each kind.
func TestAttributes(t *testing.T) {
	b := bare(t)
	for bits := range 32 {
		want := 6 + 2 + 8.0
		for bit, weight := range map[int]float64{1: 1, 2: 2, 4: 1, 16: 1} {
			if bits&bit != 0 {
				want += weight
			}
		}
		c := attributes(t, b, layout.Blocks, has(bits))
		for _, kind := range []int{api.Dir, api.File, api.Link, api.White} {
			mustAway(t, "attributes", put(t, c, 5, api.Inode{Kind: kind, Attr: layout.Blocks}), want)
		}
		mustAway(t, "of Root", put(t, c, api.Root, api.Inode{Kind: api.Dir, Attr: layout.Blocks}), want-2)
	}
	c := attributes(t, b, 3, api.Attr{Has: api.HasOpaque | api.HasOrigin})
	mustAway(t, "ones that say nothing", put(t, c, 5, api.Inode{Kind: api.Dir, Attr: 3}), 16+2)
}

// P29.1: blocks of attributes that attr.Get does not take, and ones whose pointer does not count, weigh nothing.
func TestAttributesThatAreNone(t *testing.T) {
	b := put(t, bare(t), 5, api.Inode{Kind: api.Dir, Attr: 3})
	c := attributes(t, b, 3, has(31))
	mustAway(t, "taken", c, 16+5)
	for i := range 64 {
		d := bytes.Clone(c)
		d[64*geo.Block(layout, 0, 2)+i] ^= 1
		mustAway(t, "another byte", d, 16)
	}
	mustAway(t, "bytes 0", block(b, 3, make([]byte, 64)), 16)
	mustAway(t, "garbage", block(b, 3, sample.Garbage()), 16)
	mustAway(t, "named ahead", put(t, c, 4, api.Inode{Kind: api.File, Ptr: [4]int{3}}), 16+10)
	mustAway(t, "named ahead, as attributes", put(t, c, 4, api.Inode{Kind: api.White, Attr: 3}), 16+10+5)
	mustAway(t, "named ahead, by itself", put(t, c, 5, api.Inode{Kind: api.File, Attr: 3, Ptr: [4]int{0, 0, 3}}), 16+8)
	mustAway(t, "named behind", put(t, c, 6, api.Inode{Kind: api.File, Ptr: [4]int{3}}), 16+10+5)
	mustAway(t, "of no inode", sample.Lay(c, geo.Inode(layout, 0, 5), sample.Garbage()), 6+1)
	mustAway(t, "of a free inode", put(t, c, 5, api.Inode{}), 6)
	mustAway(t, "as bytes of a File", put(t, c, 5, api.Inode{Kind: api.File, Ptr: [4]int{3}}), 16)
}

// P29.1: each 16 bytes that are not all 0, in each of the four blocks of a Dir; one byte is enough, wherever it is.
func TestEntries(t *testing.T) {
	b := put(t, bare(t), 4, api.Inode{Kind: api.Dir, Ptr: [4]int{2, 4, 6, layout.Blocks}})
	mustAway(t, "none", b, 6+2+32)
	for k, n := range []int{2, 4, 6, layout.Blocks} {
		for i := range 64 {
			c := make([]byte, 64)
			c[i] = 1
			mustAway(t, "a byte", block(b, n, c), 40+1)
			c[i^32] = 255
			mustAway(t, "two slots", block(b, n, c), 40+2)
		}
		l := []api.Entry{sample.At(4*k, "a", 5), sample.At(4*k+1, "b", 6), sample.At(4*k+3, "c", 7)}
		mustAway(t, "entries", block(b, n, entry.Block(l, k)), 40+3)
	}
	for i, n := range []int{2, 4, 6, layout.Blocks} {
		b = block(b, n, sample.Garbage())
		mustAway(t, "all", b, 40+4*float64(i+1))
	}
	mustAway(t, "and attributes", attributes(t, put(t, b, 4, api.Inode{Kind: api.Dir, Ptr: [4]int{2, 4, 6, layout.Blocks}, Attr: 1}), 1, has(31)), 6+63)
}

// P29.1: bytes of what is no Dir, and of blocks whose pointers do not count, weigh nothing; nor do those of a block of attributes.
func TestNoEntries(t *testing.T) {
	full := block(bare(t), 2, sample.Garbage())
	mustAway(t, "named by none", full, 6)
	for _, kind := range []int{api.File, api.Link} {
		mustAway(t, "no Dir", put(t, full, 4, api.Inode{Kind: kind, Ptr: [4]int{0, 2}}), 6+10)
	}
	mustAway(t, "attributes", put(t, full, 4, api.Inode{Kind: api.Dir, Attr: 2}), 6+10)
	mustAway(t, "a Dir", put(t, full, 4, api.Inode{Kind: api.Dir, Ptr: [4]int{0, 2}}), 6+10+4)
	mustAway(t, "by two pointers", put(t, full, 4, api.Inode{Kind: api.Dir, Ptr: [4]int{0, 2, 0, 2}}), 6+18+4)
	mustAway(t, "Index", put(t, full, api.Index, api.Inode{Kind: api.Dir, Ptr: [4]int{2}}), 6+8+4)
	dir := put(t, full, 5, api.Inode{Kind: api.Dir, Ptr: [4]int{2}})
	mustAway(t, "named ahead by a File", put(t, dir, 4, api.Inode{Kind: api.File, Ptr: [4]int{2}}), 6+20)
	mustAway(t, "named ahead by a Dir", put(t, dir, 4, api.Inode{Kind: api.Dir, Ptr: [4]int{0, 0, 0, 2}}), 6+20+4)
	mustAway(t, "named ahead as attributes", put(t, dir, 4, api.Inode{Kind: api.Dir, Attr: 2}), 6+20)
	mustAway(t, "named behind", put(t, dir, 6, api.Inode{Kind: api.File, Ptr: [4]int{2}}), 6+20+4)
}

// P29.1: a finding of each clause alone: those that are put right count, no others, and none of lower layers and logs.
func TestFindings(t *testing.T) {
	counted := []int{api.ClauseImpure, api.ClauseLinks, api.ClauseShown, api.ClauseBitmap}
	for clause, h := range sample.Harms()[1:] {
		b := sample.Harmed(h)
		want := 0.0
		if slices.Contains(counted, clause+1) {
			want = 1
		}
		if got := imag(measure.Of(b)); got != want {
			t.Errorf("%s: %v, not %v", h.Why, got, want)
		}
		mustAway(t, h.Why, b, real(weigh(b)))
	}
	l := sample.Harms()
	b := sample.Image(sample.Full())
	all := sample.Harmed(l[18], l[19], l[20], l[21])
	mustBe(t, "all that count", all, measure.Of(b)+4i)
	mustBe(t, "two, and others", sample.Harmed(l[18], l[21], l[22], l[23]), measure.Of(b)+2i)
	s := sample.Full()
	for _, ino := range []int{api.Work, api.Index, sample.UpDir, sample.UpLink} {
		s.Upper.Nodes[ino-1].Nlink, s.Upper.Nodes[ino-1].Impure = 99, 1
	}
	mustBe(t, "several of a clause", sample.Image(s), measure.Of(b)+8i)
}

// P29.1: neither lower layers, nor blocks that no pointer names, nor the log, count.
func TestOthers(t *testing.T) {
	r := rand.New(rand.NewSource(5))
	b := bare(t)
	for at := 1; at < geo.Total(layout); at++ {
		c := make([]byte, 64)
		r.Read(c)
		if at < geo.Bitmap(layout, 0) || at > geo.Inode(layout, 0, layout.Inodes) {
			b = sample.Lay(b, at, c)
		}
	}
	mustBe(t, "others", b, 6)
	full := sample.Harmed(sample.Harms()[19])
	want := real(measure.Of(full))
	mustAway(t, "a log", sample.Logged(full, geo.Inode(sample.FullGeo(), 0, 1)), want)
	r.Read(full[64 : 64*geo.Bitmap(sample.FullGeo(), 0)])
	mustAway(t, "lower layers", full, want)
}

// P29.1: of what is no image it is 0.
func TestNoImage(t *testing.T) {
	b := sample.Harmed(sample.Harms()[19], sample.Harms()[4])
	mustBe(t, "nil", nil, 0)
	mustBe(t, "nothing", []byte{}, 0)
	for n := range len(b) {
		if n < 130 || n%64 < 2 || n > len(b)-66 {
			mustBe(t, "cut", b[:n], 0)
		}
	}
	mustBe(t, "more bytes", append(bytes.Clone(b), 0), 0)
	mustBe(t, "another sector more", append(bytes.Clone(b), make([]byte, 64)...), 0)
	mustBe(t, "bytes 0", make([]byte, len(b)), 0)
	mustBe(t, "no first sector", b[64:], 0)
	for i := range 64 {
		c := bytes.Clone(b)
		c[i] ^= 1
		mustBe(t, "another first sector", c, 0)
	}
	if measure.Of(b) == 0 {
		t.Error("an image")
	}
}

// P29.2: real parts that differ, imaginary ones alone, and like ones, both ways round; what is no number is not less.
func TestLess(t *testing.T) {
	rising := []complex128{complex(math.Inf(-1), 0), -1 + 9i, complex(0, math.Inf(-1)), -1i, 0, 1i, 2i, complex(0, math.Inf(1)), 1, 1 + 1i, 1 + 5i, 1 + 73i, 2, 2 + 1i, 2412, 2412 + 73i, complex(math.Inf(1), -1)}
	for i, a := range rising {
		for j, b := range rising {
			if got := measure.Less(a, b); got != (i < j) {
				t.Errorf("Less(%v, %v): %v", a, b, got)
			}
		}
	}
	nan := math.NaN()
	for _, z := range rising {
		if measure.Less(complex(nan, 0), z) || measure.Less(z, complex(nan, 0)) || measure.Less(complex(real(z), nan), z) || measure.Less(z, complex(real(z), nan)) {
			t.Errorf("no number is less, or greater, than %v", z)
		}
	}
}

// P29.2: the least and the greatest layout, and those between; 0 of one that may not be.
func TestMost(t *testing.T) {
	for inodes, want := range map[int]int{4: 1152, 5: 1215, 23: 2349, 24: 2412} {
		for _, g := range []api.Geo{{Lowers: 1, Inodes: inodes, Blocks: 1, Log: 1}, {Lowers: 3, Inodes: inodes, Blocks: 60, Log: 64}} {
			if got := measure.Most(g); got != want {
				t.Errorf("Most(%v): %d, not %d", g, got, want)
			}
		}
	}
	for inodes := 4; inodes <= 24; inodes++ {
		if got := measure.Most(api.Geo{Lowers: 2, Inodes: inodes, Blocks: 30, Log: 9}); got != 900+63*inodes {
			t.Errorf("%d inodes: %d", inodes, got)
		}
	}
	ok := api.Geo{Lowers: 3, Inodes: 24, Blocks: 60, Log: 64}
	for _, n := range append(sample.Far(), -1, 0) {
		for _, g := range []api.Geo{{Lowers: n, Inodes: 24, Blocks: 60, Log: 64}, {Lowers: 3, Inodes: n, Blocks: 60, Log: 64}, {Lowers: 3, Inodes: 24, Blocks: n, Log: 64}, {Lowers: 3, Inodes: 24, Blocks: 60, Log: n}} {
			if got := measure.Most(g); got != 0 {
				t.Errorf("Most(%v): %d", g, got)
			}
		}
	}
	for _, g := range []api.Geo{{}, {Lowers: 4, Inodes: ok.Inodes, Blocks: ok.Blocks, Log: ok.Log}, {Lowers: 1, Inodes: 3, Blocks: 1, Log: 1}, {Lowers: 1, Inodes: 25, Blocks: 1, Log: 1}, {Lowers: 1, Inodes: 4, Blocks: 61, Log: 1}, {Lowers: 1, Inodes: 4, Blocks: 1, Log: 65}} {
		if got := measure.Most(g); got != 0 {
			t.Errorf("Most(%v): %d", g, got)
		}
	}
}

// reader is the upper layer of an image, by a second reading of the words: where each thing lies is counted here.
type reader struct {
	b     []byte
	g     api.Geo
	owner map[int][2]int
}

func (x reader) sector(i int) []byte {
	first := 1 + x.g.Lowers*(1+x.g.Inodes+x.g.Blocks)
	return x.b[64*(first+i):][:64]
}

func (x reader) inode(ino int) (api.Inode, bool) {
	return inode.Get(x.sector(ino))
}

func (x reader) pointers(ino int) [5]int {
	y, _ := x.inode(ino)
	return [5]int{y.Ptr[0], y.Ptr[1], y.Ptr[2], y.Ptr[3], y.Attr}
}

// block is the block that a pointer names, if it counts, else bytes 0.
func (x reader) block(ino, k int) []byte {
	if n := x.pointers(ino)[k]; n >= 1 && n <= x.g.Blocks && x.owner[n] == [2]int{ino, k} {
		return x.sector(x.g.Inodes + n)
	}
	return make([]byte, 64)
}

func read(b []byte, g api.Geo) reader {
	x := reader{b, g, map[int][2]int{}}
	for ino := g.Inodes; ino >= 1; ino-- {
		for k := 4; k >= 0; k-- {
			x.owner[x.pointers(ino)[k]] = [2]int{ino, k}
		}
	}
	return x
}

// weigh is the measure by the chapter's words.
func weigh(b []byte) complex128 {
	g, e := geo.Get(b)
	if e != api.OK {
		return 0
	}
	x := read(b, g)
	real, imag := 0, 0
	for ino := 1; ino <= g.Inodes; ino++ {
		y, readable := x.inode(ino)
		if !readable {
			real++
		}
		if ino < 4 && y.Kind != api.Dir {
			real += 300
		}
		if y.Kind != api.Free {
			real += 2
		}
		for _, n := range x.pointers(ino) {
			if n != 0 {
				real += 8
			}
		}
		a, _ := attr.Get(x.block(ino, 4))
		real += 2*(a.Has>>1&1) + a.Has&1 + a.Has>>2&1 + a.Has>>4&1
		for i := range 16 {
			part := x.block(ino, i/4)[i%4*16:][:16]
			if y.Kind == api.Dir && len(bytes.Trim(part, "\x00")) > 0 {
				real++
			}
		}
	}
	l, _ := inv.All(b)
	for _, f := range l {
		if f.Clause >= 18 && f.Clause <= 21 {
			imag++
		}
	}
	return complex(float64(real), float64(imag))
}

// P29.1, P29.3: many images, held against a second reading of the words; the most is not passed.
func TestMany(t *testing.T) {
	r := rand.New(rand.NewSource(1))
	var met [5]int
	for i := range 3000 {
		b := sample.Loose(r.Intn)
		if i%3 == 0 {
			b = sample.Wrong(r.Intn)
		}
		z := weigh(b)
		mustBe(t, "any image", b, z)
		g, _ := geo.Get(b)
		if real(z) > float64(measure.Most(g)) || imag(z) > float64(3*g.Inodes+1) {
			t.Fatalf("%v of %v", z, g)
		}
		met[min(int(imag(z)), len(met)-1)]++
	}
	for n, many := range met {
		if many < 100 {
			t.Errorf("%d findings that count are met %d times", n, many)
		}
	}
}

// P0, P29.3: upper layers of any bytes, and of the greatest layout.
func TestAnyBytes(t *testing.T) {
	r := rand.New(rand.NewSource(4))
	for range 200 {
		g := api.Geo{Lowers: 1 + r.Intn(3), Inodes: 4 + r.Intn(21), Blocks: 1 + r.Intn(60), Log: 1 + r.Intn(64)}
		b := sample.Image(api.Stack{Geo: g, Lowers: make([]api.Branch, g.Lowers)})
		r.Read(b[64*(1+r.Intn(geo.Bitmap(g, 0))):])
		z := measure.Of(b)
		if z != weigh(b) || real(z) > float64(measure.Most(g)) {
			t.Fatal(z, weigh(b))
		}
	}
}

// P29.3: each repair lowers it, till nothing is to be put right.
func TestRepairs(t *testing.T) {
	r := rand.New(rand.NewSource(6))
	for range 60 {
		b := sample.Loose(r.Intn)
		for {
			l, _ := inv.All(b)
			if len(l) == 0 || !fix.Can(l[0].Clause) {
				break
			}
			w, _ := fix.Of(b, l[0])
			c := fix.Apply(b, w)
			if before, behind := measure.Of(b), measure.Of(c); !measure.Less(behind, before) || measure.Less(before, behind) {
				t.Fatalf("%v: %v, behind %v", l[0], behind, before)
			}
			b = c
		}
		if z := measure.Of(b); imag(z) != 0 {
			t.Fatal(z)
		}
	}
}
