package fix_test

import (
	"bytes"
	"math"
	"math/rand"
	"reflect"
	"slices"
	"testing"

	"craquelure/api"
	"craquelure/attr"
	"craquelure/bitmap"
	"craquelure/entry"
	"craquelure/fix"
	"craquelure/geo"
	"craquelure/impure"
	"craquelure/inode"
	"craquelure/inv"
	"craquelure/links"
	"craquelure/measure"
	"craquelure/sample"
	"craquelure/store"
	"craquelure/tally"
)

// Inodes of the upper layer of ward.
const (
	dir, file, link, white, none, free, last = 4, 5, 6, 7, 8, 9, 10
)

var layout = api.Geo{Lowers: 2, Inodes: last, Blocks: 30, Log: 5}

// Clauses by what is repaired.
var (
	slotted  = []int{api.ClauseEntry, api.ClauseTwice, api.ClauseWhite, api.ClauseIndex, api.ClauseWork}
	directed = []int{api.ClauseForm, api.ClauseLoop, api.ClauseGone, api.ClauseSame}
	dropped  = map[int]int{api.ClauseOpaque: api.HasOpaque, api.ClauseOrigin: api.HasOrigin, api.ClauseMeta: api.HasMeta}
)

// Blocks of ward, as pointers name them: those of the directory, its attributes, those of others, and one that is named by nothing.
const (
	first, second, third, fourth                   = 11, 3, 30, 1
	dirAttr, fileAttr, linkAttr, whiteAttr, unused = 5, 7, 9, 12, 20
)

// all is attributes that have everything.
func all() api.Attr {
	return api.Attr{Has: 31, Opaque: 5, Redirect: "/x", Origin: api.Origin{Layer: 2, Ino: 3, Gen: 4}, Shown: 6}
}

// ward is an image that has of all that is repaired some; none is an inode that is none.
func ward(t *testing.T) []byte {
	t.Helper()
	root := api.Branch{Nodes: []api.Node{sample.Node(api.Dir, 2)}}
	b := sample.Image(api.Stack{Geo: layout, Lowers: []api.Branch{root, root}})
	for ino := api.Root; ino <= api.Index; ino++ {
		b = put(t, b, ino, api.Inode{Kind: api.Dir, Nlink: 2, Gen: ino})
	}
	b = put(t, b, dir, api.Inode{Kind: api.Dir, Impure: 1, Nlink: 9, Gen: 8, Ptr: [4]int{first, second, third, fourth}, Attr: dirAttr})
	b = put(t, b, file, api.Inode{Kind: api.File, Impure: 2, Nlink: 8, Gen: 7, Size: 99, Ptr: [4]int{13, second, 0, 99}, Attr: fileAttr})
	b = put(t, b, link, api.Inode{Kind: api.Link, Impure: 3, Nlink: 7, Size: 256, Ptr: [4]int{14, 14, 14, 14}, Attr: linkAttr})
	b = put(t, b, white, api.Inode{Kind: api.White, Impure: 4, Nlink: 6, Attr: whiteAttr})
	b = sample.Lay(b, geo.Inode(layout, 0, none), sample.Garbage())
	b = put(t, b, last, api.Inode{Kind: api.Dir, Ptr: [4]int{first, 21, 22, 23}, Attr: dirAttr})
	for _, n := range []int{first, second, third, fourth, 21, 22, 23, unused} {
		b = block(b, n, bytes.Repeat([]byte{byte(n)}, 64))
	}
	for _, n := range []int{dirAttr, fileAttr, linkAttr, whiteAttr} {
		b = attributes(t, b, n, all())
	}
	return b
}

func put(t *testing.T, b []byte, ino int, x api.Inode) []byte {
	t.Helper()
	return sample.Lay(b, geo.Inode(layout, 0, ino), laid(t, x))
}

func laid(t *testing.T, x api.Inode) []byte {
	t.Helper()
	c, e := inode.Put(x)
	if e != api.OK {
		t.Fatal(x)
	}
	return c
}

// got is an upper inode of the image.
func got(b []byte, ino int) api.Inode {
	x, _ := inode.Get(sector(b, geo.Inode(layout, 0, ino)))
	return x
}

func sector(b []byte, at int) []byte {
	return bytes.Clone(b[64*at : 64*at+64])
}

func block(b []byte, n int, c []byte) []byte {
	return sample.Lay(b, at(n), c)
}

// at is the sector of the upper block that a pointer n names.
func at(n int) int {
	return geo.Block(layout, 0, n-1)
}

func attributes(t *testing.T, b []byte, n int, a api.Attr) []byte {
	t.Helper()
	return block(b, n, attrs(t, a))
}

func attrs(t *testing.T, a api.Attr) []byte {
	t.Helper()
	c, e := attr.Put(a)
	if e != api.OK {
		t.Fatal(a)
	}
	return c
}

func find(clause, ino, slot int) api.Finding {
	return api.Finding{Clause: clause, Ino: ino, Slot: slot}
}

func mustFix(t *testing.T, why string, b []byte, f api.Finding, at int, want []byte) {
	t.Helper()
	before := bytes.Clone(b)
	w, ok := fix.Of(b, f)
	if !ok || w.At != at || !bytes.Equal(w.Bytes, want) {
		t.Errorf("%s: %v: %v, %v, not %d: %v", why, f, w, ok, at, want)
	}
	if !bytes.Equal(b, before) {
		t.Fatalf("%s: the image is changed", why)
	}
}

func mustNotFix(t *testing.T, why string, b []byte, f api.Finding) {
	t.Helper()
	if w, ok := fix.Of(b, f); ok || w.At != 0 || w.Bytes != nil {
		t.Errorf("%s: %v: %v, %v", why, f, w, ok)
	}
}

// The chapter's example, and some of the document.
func TestExamples(t *testing.T) {
	b := ward(t)
	mustNotFix(t, "a lower layer", b, api.Finding{Clause: api.ClauseLower, Layer: 1, Slot: -1})
	if fix.Can(api.ClauseLower) {
		t.Error("ClauseLower")
	}
	g := api.Geo{Lowers: 1, Inodes: 4, Blocks: 2, Log: 3}
	low := []api.Branch{{Nodes: []api.Node{sample.Node(api.Dir, 2)}}}
	b = sample.Image(api.Stack{Geo: g, Lowers: low})
	for ino := 1; ino <= 3; ino++ {
		w, _ := fix.Of(b, find(api.ClauseSpecial, ino, -1))
		b = fix.Apply(b, w)
	}
	up := slices.Repeat([]api.Node{sample.Node(api.Dir, 2)}, 3)
	if !inv.Clean(b) || !bytes.Equal(b, sample.Image(api.Stack{Geo: g, Upper: api.Branch{Nodes: up}, Lowers: low})) {
		t.Error("bytes 0: no three empty directories")
	}
}

// P30.1: each clause, 0, and ones that there are not.
func TestCan(t *testing.T) {
	for clause := -3; clause < 40; clause++ {
		if got := fix.Can(clause); got != (clause >= 1 && clause <= 21) {
			t.Errorf("Can(%d): %v", clause, got)
		}
	}
	for _, n := range append(sample.Far(), api.ClauseLower, api.ClausePending) {
		if fix.Can(n) {
			t.Errorf("Can(%d)", n)
		}
	}
}

// P30.2: what there is no repair of: other clauses, other layers, and what is no image.
func TestNone(t *testing.T) {
	b := ward(t)
	for _, clause := range append(sample.Far(), -1, 0, api.ClauseLower, api.ClausePending, 24) {
		for ino := range 12 {
			mustNotFix(t, "another clause", b, find(clause, ino, ino%5-1))
		}
	}
	for clause, f := range ofEach() {
		if _, ok := fix.Of(b, f); !ok {
			t.Errorf("no repair of %d", clause)
		}
		for _, layer := range append(sample.Far(), -1, 1, 2, 3, 4) {
			f.Layer = layer
			mustNotFix(t, "another layer", b, f)
		}
		f.Layer = 0
		mustNotFix(t, "nothing", nil, f)
		mustNotFix(t, "nothing", []byte{}, f)
		for _, n := range []int{1, 63, 64, 65, 64 * geo.Bitmap(layout, 0), len(b) - 64, len(b) - 1} {
			mustNotFix(t, "cut", b[:n], f)
			mustNotFix(t, "without its beginning", b[n:], f)
			mustNotFix(t, "more bytes", append(bytes.Clone(b), b[:n]...), f)
		}
		mustNotFix(t, "bytes 0", make([]byte, len(b)), f)
		for i := range 64 {
			c := bytes.Clone(b)
			c[i] ^= 4
			mustNotFix(t, "another first sector", c, f)
		}
	}
}

// ofEach is a finding of each clause that there is a repair of in ward.
func ofEach() map[int]api.Finding {
	l := map[int]api.Finding{
		api.ClausePtr: find(api.ClausePtr, file, 3), api.ClauseSpecial: find(api.ClauseSpecial, api.Work, -1),
		api.ClauseInode: find(api.ClauseInode, none, -1), api.ClauseBitmap: find(api.ClauseBitmap, 0, -1),
	}
	for clause := api.ClausePtr; clause <= api.ClauseBitmap; clause++ {
		if _, there := l[clause]; !there {
			l[clause] = find(clause, dir, 2)
		}
	}
	return l
}

// outside is numbers of inodes that there are not.
func outside() []int {
	return append(sample.Far(), -1, 0, layout.Inodes+1)
}

// P30.2: each pointer of each inode that is read, whether it counts or not, or is 0; of free ones too.
func TestPtr(t *testing.T) {
	b := ward(t)
	for _, ino := range []int{api.Root, api.Work, api.Index, dir, file, link, white, free, last} {
		for slot := range 5 {
			x := got(b, ino)
			if slot == 4 {
				x.Attr = 0
			} else {
				x.Ptr[slot] = 0
			}
			mustFix(t, "a pointer", b, find(api.ClausePtr, ino, slot), geo.Inode(layout, 0, ino), laid(t, x))
		}
		for _, slot := range append(sample.Far(), -1, 5, 6, 15) {
			mustNotFix(t, "another slot", b, find(api.ClausePtr, ino, slot))
		}
	}
	for slot := range 5 {
		mustNotFix(t, "none", b, find(api.ClausePtr, none, slot))
		for _, ino := range outside() {
			mustNotFix(t, "no inode", b, find(api.ClausePtr, ino, slot))
		}
	}
}

// P30.2: pointer 4, whatever it names, and whatever the slot is.
func TestAttr(t *testing.T) {
	b := block(ward(t), fileAttr, sample.Garbage())
	for _, ino := range []int{api.Root, api.Work, api.Index, dir, file, link, white, free, last} {
		x := got(b, ino)
		x.Attr = 0
		for _, slot := range []int{math.MinInt, -1, 0, 3, 4, 5, math.MaxInt} {
			mustFix(t, "attributes", b, find(api.ClauseAttr, ino, slot), geo.Inode(layout, 0, ino), laid(t, x))
		}
	}
	for _, ino := range append(outside(), none) {
		mustNotFix(t, "no inode", b, find(api.ClauseAttr, ino, -1))
	}
}

// P30.2: an empty directory in place of Root, Work or Index, whatever is there.
func TestSpecial(t *testing.T) {
	b := ward(t)
	for i, c := range [][]byte{b, sample.Lay(b, geo.Inode(layout, 0, 1), sample.Garbage()), put(t, b, 2, api.Inode{}), put(t, b, 3, api.Inode{Kind: api.File, Size: 3, Attr: 2})} {
		for ino := 1; ino <= 3; ino++ {
			mustFix(t, "a special inode", c, find(api.ClauseSpecial, ino, i-1), geo.Inode(layout, 0, ino), laid(t, api.Inode{Kind: api.Dir, Nlink: 2}))
		}
	}
	for _, ino := range append(outside(), 4, 5, last) {
		mustNotFix(t, "no special one", b, find(api.ClauseSpecial, ino, -1))
	}
}

// P30.2: 64 bytes 0 in place of any inode, whatever is there.
func TestInode(t *testing.T) {
	b := ward(t)
	for _, clause := range []int{api.ClauseInode, api.ClauseOrphan} {
		for ino := 1; ino <= layout.Inodes; ino++ {
			for _, slot := range []int{-1, 0, 77} {
				mustFix(t, "an inode", b, find(clause, ino, slot), geo.Inode(layout, 0, ino), make([]byte, 64))
			}
		}
		for _, ino := range outside() {
			mustNotFix(t, "no inode", b, find(clause, ino, -1))
		}
	}
}

// P30.2: each slot of a Dir is cleared, and no other bytes of its block, whatever these are.
func TestEntry(t *testing.T) {
	b := ward(t)
	for _, clause := range slotted {
		for slot := range 16 {
			n := []int{first, second, third, fourth}[slot/4]
			want := bytes.Repeat([]byte{byte(n)}, 64)
			clear(want[slot%4*16 : slot%4*16+16])
			mustFix(t, "an entry", b, find(clause, dir, slot), at(n), want)
		}
		c := block(b, second, make([]byte, 64))
		mustFix(t, "nothing", c, find(clause, dir, 5), at(second), make([]byte, 64))
		l := []api.Entry{sample.At(4, "a", 5), sample.At(6, "b", 6), sample.At(7, "c", 7)}
		c = block(b, second, entry.Block(l, 1))
		mustFix(t, "an entry", c, find(clause, dir, 6), at(second), entry.Block([]api.Entry{l[0], l[2]}, 1))
		for slot := 4; slot < 16; slot++ {
			n := 21 + slot/4 - 1
			want := bytes.Repeat([]byte{byte(n)}, 64)
			clear(want[slot%4*16 : slot%4*16+16])
			mustFix(t, "of the last inode", b, find(clause, last, slot), at(n), want)
		}
		c = put(t, b, api.Root, api.Inode{Kind: api.Dir, Ptr: [4]int{0, 0, 0, unused}})
		mustFix(t, "of Root", c, find(clause, api.Root, 12), at(unused), append(make([]byte, 16), bytes.Repeat([]byte{unused}, 48)...))
	}
}

// P30.2: slots that there are not, pointers that do not count, and what is no Dir.
func TestNoEntry(t *testing.T) {
	b := ward(t)
	for _, clause := range slotted {
		for _, slot := range append(sample.Far(), -1, -2, -3, -4, -5, 16, 17, 19, 20) {
			mustNotFix(t, "no slot", b, find(clause, dir, slot))
		}
		for slot := range 16 {
			for _, ino := range append(outside(), api.Root, file, link, white, none, free) {
				mustNotFix(t, "no block of a Dir", b, find(clause, ino, slot))
			}
		}
		for slot := range 4 {
			mustNotFix(t, "named ahead", b, find(clause, last, slot))
		}
		for _, n := range []int{0, layout.Blocks + 1, api.MaxCount, first, dirAttr} {
			c := put(t, b, last, api.Inode{Kind: api.Dir, Ptr: [4]int{unused, n}})
			mustNotFix(t, "does not count", c, find(clause, last, 4))
			mustNotFix(t, "does not count", c, find(clause, last, 7))
			mustNotFix(t, "is not there", c, find(clause, last, 8))
		}
	}
}

// P30.2: without a marker, an origin, or bytes elsewhere; with all else that there was, also if these are not there.
func TestDropped(t *testing.T) {
	b := ward(t)
	blocks := map[int]int{dir: dirAttr, file: fileAttr, link: linkAttr, white: whiteAttr}
	for clause, bit := range dropped {
		for has := range 32 {
			a := attr.Drop(all(), ^has)
			for ino, n := range blocks {
				mustFix(t, "attributes", attributes(t, b, n, a), find(clause, ino, 3-ino), at(n), attrs(t, attr.Drop(a, bit)))
			}
		}
		c := put(t, b, api.Root, api.Inode{Kind: api.Dir, Attr: unused})
		mustFix(t, "of Root", attributes(t, c, unused, all()), find(clause, api.Root, -1), at(unused), attrs(t, attr.Drop(all(), bit)))
	}
}

// P30.2: without a redirect; a Dir that is not Root is opaque then.
func TestDirected(t *testing.T) {
	b := ward(t)
	for _, clause := range directed {
		for has := range 32 {
			a := attr.Drop(all(), ^has)
			want := attr.Drop(a, api.HasRedirect)
			c := attributes(t, b, unused, a)
			for _, kind := range []int{api.File, api.Link, api.White} {
				mustFix(t, "no Dir", put(t, c, last, api.Inode{Kind: kind, Attr: unused}), find(clause, last, -1), at(unused), attrs(t, want))
			}
			mustFix(t, "Root", put(t, c, api.Root, api.Inode{Kind: api.Dir, Attr: unused}), find(clause, api.Root, -1), at(unused), attrs(t, want))
			if has&api.HasOpaque == 0 {
				want.Has, want.Opaque = want.Has|api.HasOpaque, api.Mark
			}
			for _, ino := range []int{api.Work, api.Index, free, last} {
				mustFix(t, "a Dir", put(t, c, ino, api.Inode{Kind: api.Dir, Attr: unused}), find(clause, ino, -1), at(unused), attrs(t, want))
			}
		}
		for _, marker := range []int{0, 1, 120, api.Mark, 255} {
			a := api.Attr{Has: api.HasOpaque | api.HasRedirect, Opaque: marker, Redirect: "a"}
			mustFix(t, "a marker", attributes(t, b, dirAttr, a), find(clause, dir, 7), at(dirAttr), attrs(t, api.Attr{Has: api.HasOpaque, Opaque: marker}))
		}
	}
}

// P30.2: no attributes: pointers that do not count, blocks that attr.Get does not take, inodes that are none, or not there.
func TestNoAttributes(t *testing.T) {
	b := ward(t)
	for clause := api.ClauseOpaque; clause <= api.ClauseShown; clause++ {
		if slices.Contains([]int{api.ClauseWhite, api.ClauseIndex, api.ClauseWork, api.ClauseImpure, api.ClauseLinks}, clause) {
			continue
		}
		for _, ino := range append(outside(), none, free, api.Root, last) {
			mustNotFix(t, "none that counts", b, find(clause, ino, -1))
		}
		for _, n := range []int{layout.Blocks + 1, api.MaxCount} {
			mustNotFix(t, "no block", put(t, b, dir, api.Inode{Kind: api.Dir, Attr: n}), find(clause, dir, -1))
		}
		c := put(t, b, dir, api.Inode{Kind: api.Dir, Ptr: [4]int{0, 0, 0, dirAttr}, Attr: dirAttr})
		mustNotFix(t, "named ahead by itself", c, find(clause, dir, -1))
		for i := range 64 {
			c := bytes.Clone(b)
			c[64*at(dirAttr)+i] ^= 1
			mustNotFix(t, "not taken", c, find(clause, dir, -1))
		}
		mustNotFix(t, "garbage", block(b, whiteAttr, sample.Garbage()), find(clause, white, -1))
		mustNotFix(t, "bytes 0", block(b, whiteAttr, make([]byte, 64)), find(clause, white, -1))
	}
}

// P30.2: how many names are shown, where links.Want tells it, also none; nothing of it, where it tells false.
func TestShown(t *testing.T) {
	for _, says := range []int{-1, 0, 1, 9, api.MaxCount} {
		s := sample.Full()
		up, low := s.Upper.Nodes, s.Lowers[0].Nodes
		a := &up[sample.UpFile-1].Attr
		a.Shown = says
		if says < 0 {
			*a = attr.Drop(*a, api.HasShown)
		}
		for names := range 4 {
			low[api.Root-1].Entries = low[api.Root-1].Entries[:4]
			for i := range names {
				low[api.Root-1].Entries = append(low[api.Root-1].Entries, sample.At(8+i, "xyz"[i:i+1], sample.LowFile))
			}
			b := sample.Image(s)
			want := *a
			want.Has, want.Shown = want.Has|api.HasShown, names
			mustShow(t, b, sample.UpFile, want)
			up[api.Index-1].Entries = nil
			mustShow(t, sample.Image(s), sample.UpFile, attr.Drop(*a, api.HasShown))
			up[api.Index-1].Entries = sample.Full().Upper.Nodes[api.Index-1].Entries
		}
	}
	for _, ino := range []int{sample.UpDir, sample.UpLink, sample.UpWhite, sample.UpLast} {
		s := sample.Full()
		s.Upper.Nodes[ino-1].Attr = api.Attr{Has: api.HasShown | api.HasMeta, Shown: 1}
		if ino == sample.UpLast {
			s.Upper.Nodes[ino-1].Kind = api.File
		}
		mustShow(t, sample.Image(s), ino, api.Attr{Has: api.HasMeta})
	}
}

// mustShow wants these attributes as the repair of ClauseShown, in an image of sample.Full's layout.
func mustShow(t *testing.T, b []byte, ino int, want api.Attr) {
	t.Helper()
	g := sample.FullGeo()
	x, _ := inode.Get(sector(b, geo.Inode(g, 0, ino)))
	mustFix(t, "shown", b, find(api.ClauseShown, ino, -1), geo.Block(g, 0, x.Attr-1), attrs(t, want))
}

// P30.2: Impure and Nlink as they should be; of inodes that are read and not free alone.
func TestSaid(t *testing.T) {
	b := sample.Image(sample.Full())
	g := sample.FullGeo()
	impures := map[int]int{api.Root: api.Mark}
	nlinks := map[int]int{1: 4, 2: 2, 3: 2, sample.UpDir: 2, sample.UpFile: 2, sample.UpWhite: 2, sample.UpAway: 2, sample.UpLink: 1, sample.UpInner: 1}
	for ino := range nlinks {
		for _, n := range []int{0, 1, 120, api.Mark, 255} {
			c := sample.Change(b, ino, func(x *api.Inode) { x.Impure = n; x.Nlink = n })
			for _, slot := range []int{-1, 0, 9} {
				x, _ := inode.Get(sector(c, geo.Inode(g, 0, ino)))
				x.Impure = impures[ino]
				mustFix(t, "impure", c, find(api.ClauseImpure, ino, slot), geo.Inode(g, 0, ino), laid(t, x))
				x.Impure, x.Nlink = n, nlinks[ino]
				mustFix(t, "links", c, find(api.ClauseLinks, ino, slot), geo.Inode(g, 0, ino), laid(t, x))
			}
		}
	}
	orphan := sample.Change(b, sample.UpLast, func(x *api.Inode) { *x = api.Inode{Kind: api.File, Nlink: 3, Impure: 4, Gen: 5} })
	mustFix(t, "an orphan", orphan, find(api.ClauseLinks, sample.UpLast, -1), geo.Inode(g, 0, sample.UpLast), laid(t, api.Inode{Kind: api.File, Impure: 4, Gen: 5}))
	mustFix(t, "an orphan", orphan, find(api.ClauseImpure, sample.UpLast, -1), geo.Inode(g, 0, sample.UpLast), laid(t, api.Inode{Kind: api.File, Nlink: 3, Gen: 5}))
	for _, clause := range []int{api.ClauseImpure, api.ClauseLinks} {
		for _, ino := range append(outside(), none, free) {
			mustNotFix(t, "none, or free", ward(t), find(clause, ino, -1))
		}
	}
}

// P30.2: the bitmap, by what is used; of Ino 0 alone.
func TestBitmap(t *testing.T) {
	b := ward(t)
	want := make([]byte, 64)
	for _, n := range []int{first, second, third, fourth, dirAttr, fileAttr, linkAttr, whiteAttr, 13, 14, 21, 22, 23} {
		want[(n-1)/8] |= 1 << ((n - 1) % 8)
	}
	for _, c := range [][]byte{make([]byte, 64), want, bytes.Repeat([]byte{255}, 64)} {
		for _, slot := range []int{-1, 0, 16} {
			mustFix(t, "a bitmap", sample.Lay(b, geo.Bitmap(layout, 0), c), find(api.ClauseBitmap, 0, slot), geo.Bitmap(layout, 0), want)
		}
	}
	for _, ino := range append(sample.Far(), -1, 1, 2, last) {
		mustNotFix(t, "of an inode", b, find(api.ClauseBitmap, ino, -1))
	}
}

// P30.3: a finding of each clause alone: behind its repair it is not told, and the measure is less; where one sector was wrong all is as it was.
func TestEachClause(t *testing.T) {
	full := sample.Image(sample.Full())
	restored := []int{api.ClausePtr, api.ClauseSpecial, api.ClauseInode, api.ClauseOrphan, api.ClauseImpure, api.ClauseLinks, api.ClauseShown, api.ClauseBitmap}
	for clause, h := range sample.Harms() {
		if !fix.Can(clause) {
			continue
		}
		b := sample.Harmed(h)
		c := mustRepair(t, b, h.Want[0])
		if slices.Contains(restored, clause) && !bytes.Equal(c, full) {
			t.Errorf("%s: not as it was", h.Why)
		}
	}
}

// mustRepair wants that a finding has a repair, that it is not told behind it, that the measure is less, and that neither a lower layer nor the log is changed; it answers the image behind it.
func mustRepair(t *testing.T, b []byte, f api.Finding) []byte {
	t.Helper()
	g, _ := geo.Get(b)
	w, ok := fix.Of(b, f)
	c := fix.Apply(b, w)
	if !ok || !geo.Upper(g, w.At) || len(w.Bytes) != 64 || !bytes.Equal(c, sample.Lay(b, w.At, w.Bytes)) {
		t.Fatalf("%v: %v, %v", f, w, ok)
	}
	if l, _ := inv.All(c); inv.Has(l, f) {
		t.Fatalf("%v is told still", f)
	}
	if before, behind := measure.Of(b), measure.Of(c); !measure.Less(behind, before) {
		t.Fatalf("%v: %v, behind %v", f, behind, before)
	}
	return c
}

// write is a sector of bytes n.
func write(at, n, size int) api.Write {
	return api.Write{At: at, Bytes: bytes.Repeat([]byte{byte(n)}, size)}
}

func mustApply(t *testing.T, why string, b, want []byte, l ...api.Write) {
	t.Helper()
	before := bytes.Clone(b)
	if got := fix.Apply(b, l...); !bytes.Equal(got, want) {
		t.Errorf("%s: %v, not %v", why, got, want)
	}
	if !bytes.Equal(b, before) {
		t.Fatalf("%s: it is changed", why)
	}
}

// P30.1: no Writes, one, several, several at one sector, in their order; of bytes that are no image.
func TestApply(t *testing.T) {
	zero := func(n int) []byte { return make([]byte, n) }
	of := func(n ...int) []byte {
		var b []byte
		for _, x := range n {
			b = append(b, bytes.Repeat([]byte{byte(x)}, 64)...)
		}
		return b
	}
	mustApply(t, "none", of(1, 2, 3), of(1, 2, 3))
	mustApply(t, "the first", of(1, 2, 3), of(9, 2, 3), write(0, 9, 64))
	mustApply(t, "the last", of(1, 2, 3), of(1, 2, 9), write(2, 9, 64))
	mustApply(t, "all", of(1, 2, 3), of(7, 8, 9), write(2, 9, 64), write(0, 7, 64), write(1, 8, 64))
	mustApply(t, "at one sector", of(1, 2, 3), of(1, 6, 3), write(1, 4, 64), write(1, 5, 64), write(1, 6, 64))
	mustApply(t, "one again", of(1, 2, 3), of(4, 5, 3), write(0, 9, 64), write(1, 5, 64), write(0, 4, 64))
	mustApply(t, "behind", of(1, 2, 3), of(1, 2, 3), write(3, 9, 64))
	mustApply(t, "behind, and one", of(1, 2, 3), of(1, 7, 3), write(3, 9, 64), write(1, 7, 64), write(4, 9, 64))
	for _, n := range append(sample.Far(), -1, math.MaxInt/64, math.MaxInt/64+1, math.MinInt/64, 1<<58, 1<<57) {
		mustApply(t, "far off", of(1, 2, 3), of(1, 2, 3), write(n, 9, 64))
	}
	for _, n := range []int{0, 1, 63, 65, 128} {
		mustApply(t, "not 64 bytes", of(1, 2, 3), of(1, 2, 3), write(1, 9, n))
		mustApply(t, "not 64 bytes, and one", of(1, 2, 3), of(8, 2, 3), write(0, 8, 64), write(0, 9, n))
	}
	mustApply(t, "no bytes", of(1, 2), of(1, 2), api.Write{At: 1})
	for _, n := range []int{1, 63} {
		mustApply(t, "no whole sector", append(of(1, 2), zero(n)...), append(of(1, 2), zero(n)...), write(2, 9, 64))
		mustApply(t, "no whole sector, and one", append(of(1, 2), zero(n)...), append(of(1, 7), zero(n)...), write(1, 7, 64), write(2, 9, 64))
		mustApply(t, "none whole", zero(n), zero(n), write(0, 9, 64))
	}
	mustApply(t, "nothing", nil, nil, write(0, 9, 64))
	mustApply(t, "nothing", []byte{}, nil, write(0, 9, 64), write(0, 9, 0))
	mustApply(t, "nothing, none", nil, nil)
}

// P30.1: any writes, held against a second reading of the words.
func TestApplyMany(t *testing.T) {
	r := rand.New(rand.NewSource(7))
	for range 2000 {
		b := make([]byte, r.Intn(400))
		r.Read(b)
		var l []api.Write
		for range r.Intn(9) {
			l = append(l, write(r.Intn(10)-2, r.Intn(256), []int{64, 64, 64, 63, 65, 0}[r.Intn(6)]))
		}
		want := bytes.Clone(b)
		for _, w := range l {
			for i := 0; i < 64 && w.At >= 0 && 64*w.At+64 <= len(b) && len(w.Bytes) == 64; i++ {
				want[64*w.At+i] = w.Bytes[i]
			}
		}
		mustApply(t, "any writes", b, want, l...)
	}
}

// record is the upper layer of an image, by a second reading of the words: where each thing lies is counted here.
type record struct {
	b []byte
	g api.Geo
}

func (x record) begin() int { return 1 + x.g.Lowers*(1+x.g.Inodes+x.g.Blocks) }

func (x record) inode(ino int) (api.Inode, bool) {
	if ino < 1 || ino > x.g.Inodes {
		return api.Inode{}, false
	}
	return inode.Get(sector(x.b, x.begin()+ino))
}

// named is the sector of the block that pointer k names, if it counts.
func (x record) named(ino, k int) (int, bool) {
	taken := map[int]bool{0: true}
	for i := 1; i <= x.g.Inodes; i++ {
		y, _ := x.inode(i)
		for j, n := range []int{y.Ptr[0], y.Ptr[1], y.Ptr[2], y.Ptr[3], y.Attr} {
			if i == ino && j == k && !taken[n] && n <= x.g.Blocks {
				return x.begin() + x.g.Inodes + n, true
			}
			taken[n] = true
		}
	}
	return 0, false
}

// mended is the repair by the chapter's words.
func mended(b []byte, f api.Finding) (api.Write, bool) {
	g, e := geo.Get(b)
	if e != api.OK || f.Layer != 0 {
		return api.Write{}, false
	}
	x := record{b, g}
	s, _ := store.Stack(b)
	y, read := x.inode(f.Ino)
	there := f.Ino >= 1 && f.Ino <= g.Inodes
	node := func(y api.Inode, ok bool) (api.Write, bool) {
		if !ok {
			return api.Write{}, false
		}
		c, _ := inode.Put(y)
		return api.Write{At: x.begin() + f.Ino, Bytes: c}, true
	}
	attrAt, counts := x.named(f.Ino, 4)
	a, taken := attr.Get(sector(b, attrAt))
	block := func(a api.Attr) (api.Write, bool) {
		if !counts || !taken {
			return api.Write{}, false
		}
		c, _ := attr.Put(a)
		return api.Write{At: attrAt, Bytes: c}, true
	}
	switch f.Clause {
	case 1:
		for k := range y.Ptr {
			if k == f.Slot {
				y.Ptr[k] = 0
			}
		}
		if f.Slot == 4 {
			y.Attr = 0
		}
		return node(y, read && f.Slot >= 0 && f.Slot <= 4)
	case 2:
		y.Attr = 0
		return node(y, read)
	case 3:
		return node(inode.Fresh(), f.Ino >= 1 && f.Ino <= 3)
	case 4, 7:
		return node(api.Inode{}, there)
	case 5, 6, 15, 16, 17:
		if f.Slot < 0 || f.Slot > 15 || y.Kind != api.Dir {
			return api.Write{}, false
		}
		at, ok := x.named(f.Ino, f.Slot/4)
		if !ok {
			return api.Write{}, false
		}
		return api.Write{At: at, Bytes: entry.Clear(sector(b, at), f.Slot)}, true
	case 8:
		return block(attr.Drop(a, 1))
	case 13:
		return block(attr.Drop(a, 4))
	case 14:
		return block(attr.Drop(a, 16))
	case 9, 10, 11, 12:
		a = attr.Drop(a, 2)
		if y.Kind == api.Dir && f.Ino != 1 && a.Has%2 == 0 {
			a.Has++
			a.Opaque = 121
		}
		return block(a)
	case 20:
		a = attr.Drop(a, 8)
		if n, ok := links.Want(s, f.Ino); ok {
			a.Has, a.Shown = a.Has+8, n
		}
		return block(a)
	case 18:
		y.Impure = impure.Want(s, f.Ino)
		return node(y, read && y.Kind != api.Free)
	case 19:
		y.Nlink = tally.Names(s.Upper, f.Ino)
		return node(y, read && y.Kind != api.Free)
	case 21:
		if f.Ino == 0 {
			return api.Write{At: x.begin(), Bytes: bitmap.Put(store.Used(b, 0))}, true
		}
	}
	return api.Write{}, false
}

// mustMend wants the repair that the words ask for.
func mustMend(t *testing.T, b []byte, f api.Finding) bool {
	t.Helper()
	before := bytes.Clone(b)
	w, ok := fix.Of(b, f)
	if want, there := mended(b, f); ok != there || !reflect.DeepEqual(w, want) {
		t.Fatalf("%v: %v, %v, not %v, %v", f, w, ok, want, there)
	}
	if !bytes.Equal(b, before) {
		t.Fatal("the image is changed")
	}
	return ok
}

// broken is an image with which this and that is wrong; in each fifth one much.
func broken(r *rand.Rand, i int) []byte {
	if i%5 == 0 {
		return sample.Loose(r.Intn)
	}
	return sample.Wrong(r.Intn)
}

// P30.2: any findings, whether they are told or not, held against a second reading of the words.
func TestMany(t *testing.T) {
	r := rand.New(rand.NewSource(1))
	var met [24][2]int
	for i := range 1500 {
		b := broken(r, i)
		for range 20 {
			f := find(1+r.Intn(21), r.Intn(15), r.Intn(6)-1)
			switch r.Intn(12) {
			case 0:
				f.Clause = r.Intn(26) - 1
			case 1:
				f.Slot = r.Intn(20) - 2
			case 2:
				f.Layer = r.Intn(4) - 1
			case 3:
				f.Ino = r.Intn(2) - 1
			}
			k := 0
			if mustMend(t, b, f) {
				k = 1
			}
			if f.Clause > 0 && f.Clause < len(met) {
				met[f.Clause][k]++
			}
		}
	}
	for clause, n := range met {
		if can := fix.Can(clause); can && min(n[0], n[1]) < 50 || !can && n[1] > 0 {
			t.Errorf("clause %d: %v", clause, n)
		}
	}
}

// P30.3: any images, finding by finding, till none is left that can be repaired; the lower layers, and the log, are as they were.
func TestRepairs(t *testing.T) {
	r := rand.New(rand.NewSource(2))
	var met [24]int
	for i := range 700 {
		b := broken(r, i)
		g, _ := geo.Get(b)
		c := b
		for {
			l, _ := inv.All(c)
			l = slices.DeleteFunc(l, func(f api.Finding) bool { return !fix.Can(f.Clause) })
			if len(l) == 0 {
				break
			}
			f := l[r.Intn(len(l))]
			if i%2 == 0 { // the clauses in their order come to what the others hide
				f = l[0]
			}
			mustMend(t, c, f)
			c = mustRepair(t, c, f)
			met[f.Clause]++
		}
		upper, log := 64*geo.Bitmap(g, 0), 64*geo.Log(g)
		if !bytes.Equal(c[:upper], b[:upper]) || !bytes.Equal(c[log:], b[log:]) {
			t.Fatal("what is not of the upper layer is changed")
		}
	}
	for clause := range met {
		if fix.Can(clause) && met[clause] < 3 {
			t.Errorf("clause %d is met %d times", clause, met[clause])
		}
	}
}

// P30.3: all findings of an image, each by itself.
func TestEachFinding(t *testing.T) {
	r := rand.New(rand.NewSource(3))
	for i := range 250 {
		b := broken(r, i)
		l, _ := inv.All(b)
		for _, f := range l {
			if fix.Can(f.Clause) {
				mustRepair(t, b, f)
			} else {
				mustNotFix(t, "can't be repaired", b, f)
			}
		}
	}
}

// P0: upper layers of any bytes, and any findings.
func TestAnyBytes(t *testing.T) {
	r := rand.New(rand.NewSource(4))
	far := append(sample.Far(), -1, 0, 1, 2, 3, 4, 5, 15, 16, 24, 25)
	for range 40 {
		g := api.Geo{Lowers: 1 + r.Intn(3), Inodes: 4 + r.Intn(21), Blocks: 1 + r.Intn(60), Log: 1 + r.Intn(64)}
		b := sample.Image(api.Stack{Geo: g, Lowers: make([]api.Branch, g.Lowers)})
		r.Read(b[64*(1+r.Intn(geo.Bitmap(g, 0))):])
		l, _ := inv.All(b)
		for _, f := range l {
			if fix.Can(f.Clause) {
				mustRepair(t, b, f)
			}
		}
		for range 100 {
			mustMend(t, b, find(r.Intn(25)-1, far[r.Intn(len(far))], far[r.Intn(len(far))]))
		}
		r.Read(b)
		mustNotFix(t, "any bytes", b, find(api.ClauseOrphan, 4, -1))
	}
}

// The answers share no memory with what was handed in, nor with other answers.
func TestAnswersShareNothing(t *testing.T) {
	b := ward(t)
	before := bytes.Clone(b)
	for _, f := range ofEach() {
		w, _ := fix.Of(b, f)
		again, _ := fix.Of(b, f)
		want := bytes.Clone(w.Bytes)
		for i := range w.Bytes[:cap(w.Bytes)] {
			w.Bytes[:cap(w.Bytes)][i] ^= 255
		}
		if !bytes.Equal(b, before) || !bytes.Equal(again.Bytes, want) {
			t.Fatalf("%v shares its bytes", f)
		}
		c := bytes.Clone(b)
		w, _ = fix.Of(c, f)
		clear(c)
		if !bytes.Equal(w.Bytes, want) {
			t.Fatalf("%v shares its bytes", f)
		}
	}
	l := []api.Write{write(1, 7, 64)}
	first, none := fix.Apply(b, l...), fix.Apply(b)
	want := sample.Lay(b, 1, l[0].Bytes)
	clear(b)
	clear(l[0].Bytes)
	if !bytes.Equal(first, want) || !bytes.Equal(none, before) {
		t.Error("Apply shares its bytes")
	}
	clear(first[:cap(first)])
	if len(l) != 1 || l[0].At != 1 || !bytes.Equal(none, before) {
		t.Error("Apply changes what it was handed")
	}
}
