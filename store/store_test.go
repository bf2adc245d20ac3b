package store_test

import (
	"bytes"
	"cmp"
	"encoding/binary"
	"hash/adler32"
	"maps"
	"math"
	"math/rand"
	"reflect"
	"slices"
	"testing"

	"craquelure/api"
	"craquelure/attr"
	"craquelure/bitmap"
	"craquelure/branch"
	"craquelure/entry"
	"craquelure/geo"
	"craquelure/inode"
	"craquelure/sample"
	"craquelure/store"
	"craquelure/walk"
)

// small is a layout of two lower layers, of 8 inodes and 12 blocks each.
var small = api.Geo{Lowers: 2, Inodes: 8, Blocks: 12, Log: 3}

// image is an image that is laid sector by sector; the blocks of each layer are taken from the first one on.
type image struct {
	t     *testing.T
	geo   api.Geo
	b     []byte
	taken []int
}

// zero is an image whose layers and log have only bytes 0.
func zero(t *testing.T, g api.Geo) *image {
	t.Helper()
	b, e := geo.Put(g)
	if e != api.OK {
		t.Fatal(e)
	}
	return &image{t, g, append(b, make([]byte, 64*(geo.Total(g)-1))...), make([]int, g.Lowers+1)}
}

// empty is an image of layers that have their special directories, and nothing in them.
func empty(t *testing.T, g api.Geo) *image {
	t.Helper()
	x := zero(t, g)
	for layer := range g.Lowers + 1 {
		x.dir(layer, 1)
	}
	x.dir(0, 2)
	x.dir(0, 3)
	return x
}

func (x *image) lay(at int, b []byte) {
	x.t.Helper()
	if at < 0 || len(b) != 64 {
		x.t.Fatalf("sector %d of %d bytes", at, len(b))
	}
	copy(x.b[64*at:], b)
}

func (x *image) inode(layer, ino int, y api.Inode) {
	x.t.Helper()
	b, e := inode.Put(y)
	if e != api.OK {
		x.t.Fatalf("inode %v: %d", y, e)
	}
	x.lay(geo.Inode(x.geo, layer, ino), b)
}

// block takes the next block of a layer, and answers a pointer that names it.
func (x *image) block(layer int, b []byte) int {
	x.t.Helper()
	x.lay(geo.Block(x.geo, layer, x.taken[layer]), b)
	x.taken[layer]++
	x.fit(layer)
	return x.taken[layer]
}

// fit lays the bitmap of the blocks that are taken.
func (x *image) fit(layer int) {
	used := make([]bool, x.taken[layer])
	for i := range used {
		used[i] = true
	}
	x.lay(geo.Bitmap(x.geo, layer), bitmap.Put(used))
}

// dir lays a directory whose entries name these inodes by "a", "b" and on, from slot 0 on.
func (x *image) dir(layer, ino int, inos ...int) {
	x.t.Helper()
	y := inode.Fresh()
	for k := 0; 4*k < len(inos); k++ {
		var l []api.Entry
		for i := 4 * k; i < min(4*k+4, len(inos)); i++ {
			l = append(l, api.Entry{Slot: i, Ino: inos[i], Name: string('a' + rune(i))})
		}
		y.Ptr[k] = x.block(layer, entry.Block(l, k))
	}
	x.inode(layer, ino, y)
}

func (x *image) file(layer, ino int) {
	x.t.Helper()
	x.inode(layer, ino, api.Inode{Kind: api.File, Nlink: 1})
}

func (x *image) free(layer, ino int) {
	x.inode(layer, ino, api.Inode{})
}

func find(clause, ino, slot int) api.Finding {
	return api.Finding{Clause: clause, Ino: ino, Slot: slot}
}

func mustFind(t *testing.T, why string, x *image, want ...api.Finding) {
	t.Helper()
	if l, e := store.Upper(x.b); e != api.OK || !slices.Equal(l, want) {
		t.Errorf("%s: Upper: %v, %d, not %v", why, l, e, want)
	}
}

// mustBeWhole wants of each layer, from the first lower one on, whether it is whole.
func mustBeWhole(t *testing.T, why string, x *image, want ...bool) {
	t.Helper()
	for i, whole := range want {
		if got := store.Whole(x.b, i+1); got != whole {
			t.Errorf("%s: Whole of layer %d: %v", why, i+1, got)
		}
	}
}

// plain is nodes in which lists that have nothing are nil.
func plain(b api.Branch) api.Branch {
	var l []api.Node
	for _, n := range b.Nodes {
		if len(n.Data) == 0 {
			n.Data = nil
		}
		if len(n.Entries) == 0 {
			n.Entries = nil
		}
		l = append(l, n)
	}
	return api.Branch{Nodes: l}
}

func alike(a, b api.Branch) bool {
	return reflect.DeepEqual(plain(a), plain(b))
}

func alikeStacks(a, b api.Stack) bool {
	return a.Geo == b.Geo && alike(a.Upper, b.Upper) && slices.EqualFunc(a.Lowers, b.Lowers, alike)
}

// The chapter's example, and the document's first one: an upper layer of bytes 0.
func TestExample(t *testing.T) {
	x := zero(t, small)
	mustFind(t, "bytes 0", x, find(3, 1, -1), find(3, 2, -1), find(3, 3, -1))
	s, e := store.Stack(x.b)
	free := api.Branch{Nodes: make([]api.Node, 8)}
	if e != api.OK || !alikeStacks(s, api.Stack{Geo: small, Upper: free, Lowers: []api.Branch{free, free}}) {
		t.Errorf("Stack: %v, %d", s, e)
	}
}

// mustBeNone wants geo.Get's error of all calls, and nothing beside it.
func mustBeNone(t *testing.T, why string, b []byte) {
	t.Helper()
	if s, e := store.Stack(b); e != api.ErrForm || !reflect.DeepEqual(s, api.Stack{}) {
		t.Errorf("%s: Stack: %v, %d", why, s, e)
	}
	if l, e := store.Upper(b); e != api.ErrForm || len(l) != 0 {
		t.Errorf("%s: Upper: %v, %d", why, l, e)
	}
	for layer := -1; layer <= 4; layer++ {
		if store.Whole(b, layer) || len(store.Used(b, layer)) != 0 {
			t.Errorf("%s: layer %d: %v, %v", why, layer, store.Whole(b, layer), store.Used(b, layer))
		}
	}
}

// P14.1, P14.2: images of each error of geo.Get: another length, another first sector, a layout that may not be.
func TestNoImage(t *testing.T) {
	b := empty(t, small).b
	mustBeNone(t, "nothing", nil)
	mustBeNone(t, "nothing", []byte{})
	for _, n := range []int{1, 63, 64, 65, 128, len(b) - 128, len(b) - 65, len(b) - 64, len(b) - 63, len(b) - 1} {
		mustBeNone(t, "fewer bytes", b[:n])
	}
	for _, n := range []int{1, 63, 64, 65, 128, len(b)} {
		mustBeNone(t, "more bytes", append(bytes.Clone(b), make([]byte, n)...))
	}
	for at := range 64 {
		spoiled := bytes.Clone(b)
		spoiled[at] ^= 1
		mustBeNone(t, "another first sector", spoiled)
	}
	mustBeNone(t, "bytes 0", make([]byte, len(b)))
	for _, l := range [][4]byte{{0, 8, 12, 3}, {4, 8, 12, 3}, {2, 3, 12, 3}, {2, 25, 12, 3}, {2, 8, 0, 3}, {2, 8, 61, 3}, {2, 8, 12, 0}, {2, 8, 12, 65}} {
		head := make([]byte, 60)
		copy(head, []byte{82, 84, 66, 76, 1, l[0], l[1], l[2], l[3]})
		head = binary.LittleEndian.AppendUint32(head, adler32.Checksum(head))
		sectors := 1 + (int(l[0])+1)*(1+int(l[1])+int(l[2])) + int(l[3])
		mustBeNone(t, "a layout that may not be", append(head, make([]byte, 64*(sectors-1))...))
	}
}

// P14.1: the layers of a stack, each read with as many special inodes as it has.
func TestStack(t *testing.T) {
	x := empty(t, small)
	x.dir(1, 1, 2, 4)
	x.inode(1, 2, api.Inode{Kind: api.Link, Nlink: 1, Gen: 7, Size: 2, Ptr: [4]int{x.block(1, append([]byte("/z"), make([]byte, 62)...))}})
	x.dir(1, 4, 3)
	x.file(1, 3)
	x.dir(2, 1, 3)
	x.dir(2, 3)
	opaque, _ := attr.Put(api.Attr{Has: api.HasOpaque, Opaque: api.Mark})
	x.inode(2, 3, api.Inode{Kind: api.Dir, Nlink: 2, Attr: x.block(2, opaque)})
	x.dir(0, 1, 1, 2, 3, 4, 5)
	x.inode(0, 4, api.Inode{Kind: api.White, Nlink: 1})
	s, e := store.Stack(x.b)
	if e != api.OK {
		t.Fatal(e)
	}
	dir := func(l ...api.Entry) api.Node { return api.Node{Kind: api.Dir, Nlink: 2, Entries: l} }
	want := api.Stack{Geo: small,
		Upper: api.Branch{Nodes: []api.Node{dir(api.Entry{Slot: 3, Ino: 4, Name: "d"}), dir(), dir(), {Kind: api.White, Nlink: 1}, {}, {}, {}, {}}},
		Lowers: []api.Branch{
			{Nodes: []api.Node{dir(api.Entry{Slot: 0, Ino: 2, Name: "a"}, api.Entry{Slot: 1, Ino: 4, Name: "b"}), {Kind: api.Link, Nlink: 1, Gen: 7, Data: []byte("/z")}, {Kind: api.File, Nlink: 1}, dir(api.Entry{Slot: 0, Ino: 3, Name: "a"}), {}, {}, {}, {}}},
			{Nodes: []api.Node{dir(api.Entry{Slot: 0, Ino: 3, Name: "a"}), {}, {Kind: api.Dir, Nlink: 2, Attr: api.Attr{Has: api.HasOpaque, Opaque: api.Mark}}, {}, {}, {}, {}, {}}},
		},
	}
	if !alikeStacks(s, want) {
		t.Errorf("Stack: %v, not %v", s, want)
	}
	mustFind(t, "entries of special inodes", x, find(5, 1, 0), find(5, 1, 1), find(5, 1, 2), find(5, 1, 4))
	mustBeWhole(t, "entries above the root", x, true, true)
}

// P14.1: one, two and three lower layers, the topmost first: each has its own.
func TestStackLayers(t *testing.T) {
	for lowers := 1; lowers <= 3; lowers++ {
		x := empty(t, api.Geo{Lowers: lowers, Inodes: 5, Blocks: 2, Log: 1})
		for layer := range lowers + 1 {
			x.inode(layer, 1, api.Inode{Kind: api.Dir, Gen: 10 + layer})
		}
		s, e := store.Stack(x.b)
		if e != api.OK || s.Geo != x.geo || len(s.Lowers) != lowers || len(s.Upper.Nodes) != 5 || s.Upper.Nodes[0].Gen != 10 {
			t.Fatalf("%d lower layers: %v, %d", lowers, s, e)
		}
		for i, b := range s.Lowers {
			if len(b.Nodes) != 5 || b.Nodes[0].Gen != 11+i {
				t.Errorf("%d lower layers: layer %d: %v", lowers, i+1, b)
			}
		}
	}
}

// P14.1: an entry of a special inode takes no name: a later one of that name is told.
func TestStackNames(t *testing.T) {
	x := empty(t, small)
	for layer := range 3 {
		y := inode.Fresh()
		y.Ptr[1] = x.block(layer, entry.Block([]api.Entry{{Slot: 4, Ino: 1, Name: "a"}, {Slot: 5, Ino: 3, Name: "a"}, {Slot: 6, Ino: 4, Name: "a"}, {Slot: 7, Ino: 5, Name: "a"}}, 1))
		x.inode(layer, 1, y)
		x.dir(layer, 3)
		x.file(layer, 4)
		x.file(layer, 5)
	}
	s, e := store.Stack(x.b)
	if e != api.OK {
		t.Fatal(e)
	}
	for i, b := range append(s.Lowers, s.Upper) {
		want := []api.Entry{{Slot: 5, Ino: 3, Name: "a"}}
		if i == 2 {
			want = []api.Entry{{Slot: 6, Ino: 4, Name: "a"}}
		}
		if !slices.Equal(b.Nodes[0].Entries, want) {
			t.Errorf("layer %d: %v", (i+1)%3, b.Nodes[0].Entries)
		}
	}
}

// P14.1: lower layers are pruned from their Root; the upper one stays as it is read.
func TestStackPrunes(t *testing.T) {
	x := empty(t, small)
	for layer := range 3 {
		x.dir(layer, 1, 4, 4, 5)
		x.dir(layer, 4, 5)
		x.dir(layer, 5)
		x.file(layer, 6)
		x.dir(layer, 7, 4)
		x.inode(layer, 2, api.Inode{Kind: api.Dir, Nlink: 2})
	}
	s, e := store.Stack(x.b)
	if e != api.OK || len(s.Lowers) != 2 {
		t.Fatal(s, e)
	}
	if n := s.Upper.Nodes; len(n[0].Entries) != 3 || len(n[3].Entries) != 1 || n[5].Kind != api.File || len(n[6].Entries) != 1 {
		t.Errorf("the upper layer is pruned: %v", n)
	}
	dir := func(l ...api.Entry) api.Node { return api.Node{Kind: api.Dir, Nlink: 2, Entries: l} }
	want := api.Branch{Nodes: []api.Node{dir(api.Entry{Slot: 0, Ino: 4, Name: "a"}, api.Entry{Slot: 2, Ino: 5, Name: "c"}), {}, {}, dir(), dir(), {}, {}, {}}}
	for i, b := range s.Lowers {
		if !alike(b, want) {
			t.Errorf("layer %d: %v", i+1, b)
		}
	}
}

// P14.1: Live of each kind, of inode 0, below 0, and behind the last.
func TestLive(t *testing.T) {
	var s api.Stack
	kinds := []int{api.Free, api.Dir, api.File, api.Link, api.White, 5, -1, math.MaxInt}
	for _, kind := range kinds {
		s.Upper.Nodes = append(s.Upper.Nodes, api.Node{Kind: kind})
		s.Lowers = append(s.Lowers, api.Branch{Nodes: []api.Node{{Kind: api.Dir}, {Kind: api.Dir}}})
	}
	for i, kind := range kinds {
		if got := store.Live(s, i+1); got != (kind != api.Free) {
			t.Errorf("Live of kind %d: %v", kind, got)
		}
	}
	for _, ino := range append(sample.Far(), -1, 0, 9, 10) {
		if store.Live(s, ino) || store.Live(api.Stack{}, ino) {
			t.Errorf("Live of %d", ino)
		}
	}
	if store.Live(api.Stack{}, 1) || store.Live(api.Stack{Lowers: s.Lowers}, 1) {
		t.Error("Live of no upper layer")
	}
}

// P14.1: Used of each layer, by its inodes alone, also of those that are no layers.
func TestUsed(t *testing.T) {
	x := empty(t, small)
	x.inode(1, 4, api.Inode{Kind: api.File, Nlink: 1, Ptr: [4]int{3, 0, 12}})
	x.inode(2, 8, api.Inode{Kind: api.Dir, Nlink: 1, Ptr: [4]int{13, 65535, 3, 3}, Attr: 1})
	x.inode(0, 2, api.Inode{Kind: api.White, Nlink: 1, Attr: 6})
	x.inode(0, 5, api.Inode{Kind: api.Link, Nlink: 1, Ptr: [4]int{5, 6, 7}})
	x.lay(geo.Inode(small, 0, 6), bytes.Repeat([]byte{7}, 64))
	x.lay(geo.Bitmap(small, 0), bytes.Repeat([]byte{255}, 64))
	for layer, want := range [][]int{{4, 5, 6}, {2, 11}, {0, 2}} {
		used := make([]bool, 12)
		for _, i := range want {
			used[i] = true
		}
		if got := store.Used(x.b, layer); !slices.Equal(got, used) {
			t.Errorf("Used of layer %d: %v", layer, got)
		}
	}
	for _, layer := range append(sample.Far(), -1, 3, 4) {
		if got := store.Used(x.b, layer); len(got) != 0 {
			t.Errorf("Used of layer %d: %v", layer, got)
		}
	}
	for lowers := 1; lowers <= 3; lowers++ {
		y := zero(t, api.Geo{Lowers: lowers, Inodes: 4, Blocks: 60, Log: 1})
		for layer := -1; layer <= 4; layer++ {
			want := 60
			if layer < 0 || layer > lowers {
				want = 0
			}
			if got := store.Used(y.b, layer); len(got) != want || slices.Contains(got, true) {
				t.Errorf("Used of layer %d of %d: %v", layer, lowers, got)
			}
		}
	}
}

// P14.2: an upper layer with which nothing is wrong; the log, and what is wrong with lower layers, are not asked.
func TestUpperClean(t *testing.T) {
	x := empty(t, small)
	mustFind(t, "empty", x)
	x.dir(0, 1, 4, 5, 5, 6, 6)
	x.dir(0, 4, 7)
	x.file(0, 5)
	x.inode(0, 6, api.Inode{Kind: api.White})
	x.inode(0, 7, api.Inode{Kind: api.Link})
	x.dir(0, 3, 5, 8)
	x.dir(0, 2, 6)
	x.file(0, 8)
	mustFind(t, "a tree", x)
	for i := range 3 * 64 {
		x.b[64*geo.Log(small)+i] = byte(i)
	}
	for at := geo.Bitmap(small, 1); at < geo.Bitmap(small, 0); at++ {
		x.lay(at, bytes.Repeat([]byte{255}, 64))
	}
	mustFind(t, "others that are wrong", x)
	mustBeWhole(t, "lower ones that are wrong", x, false, false)
}

// P14.2: Root, Work and Index that are no Dir: free, of each kind, or none. One that is live is an orphan too.
func TestSpecial(t *testing.T) {
	for _, ino := range []int{1, 2, 3} {
		x := empty(t, small)
		x.free(0, ino)
		mustFind(t, "free", x, find(3, ino, -1))
		for _, kind := range []int{api.File, api.Link, api.White} {
			x.inode(0, ino, api.Inode{Kind: kind, Nlink: 1})
			mustFind(t, "no Dir", x, find(3, ino, -1), find(7, ino, -1))
		}
		x.lay(geo.Inode(small, 0, ino), bytes.Repeat([]byte{1}, 64))
		mustFind(t, "none", x, find(3, ino, -1), find(4, ino, -1))
	}
	x := empty(t, small)
	x.dir(0, 1, 4)
	x.dir(0, 4, 5)
	x.file(0, 5)
	x.file(0, 1)
	x.dir(0, 2, 5)
	x.taken[0] = 0
	x.lay(geo.Bitmap(small, 0), bitmap.Put([]bool{false, true, true}))
	mustFind(t, "names of a Root that is no Dir", x, find(3, 1, -1), find(7, 1, -1), find(7, 4, -1))
}

// P14.2: a Dir that is named twice: in one Dir, in two, by itself, by one below it, and by another tree: the slot of the later one is told.
func TestTwice(t *testing.T) {
	x := empty(t, small)
	x.dir(0, 1, 4, 5, 4)
	x.dir(0, 4)
	x.dir(0, 5)
	mustFind(t, "in one Dir", x, find(6, 1, 2))
	x = empty(t, small)
	x.dir(0, 1, 5, 4)
	x.dir(0, 4, 7, 6)
	x.dir(0, 5, 8, 7, 6)
	x.dir(0, 6)
	x.dir(0, 7)
	x.file(0, 8)
	mustFind(t, "in two", x, find(6, 4, 0), find(6, 4, 1))
	x = empty(t, small)
	x.dir(0, 1, 4)
	x.dir(0, 4, 5, 4)
	x.dir(0, 5, 6, 7, 7, 7, 4)
	x.file(0, 6)
	x.inode(0, 7, api.Inode{Kind: api.White})
	mustFind(t, "by itself, and by one below", x, find(6, 4, 1), find(6, 5, 4))
}

// P14.2: a Dir in two of the three trees is the Root's, or else the Index's.
func TestTwiceInTrees(t *testing.T) {
	for _, c := range []struct{ first, second int }{{1, 2}, {1, 3}, {3, 2}} {
		x := empty(t, small)
		x.file(0, 6)
		x.dir(0, c.first, 6, 4)
		x.dir(0, c.second, 6, 6, 4)
		x.dir(0, 4, 5)
		x.dir(0, 5)
		mustFind(t, "two trees", x, find(6, c.second, 2))
	}
	x := empty(t, small)
	x.dir(0, 1, 4)
	x.dir(0, 2, 4)
	x.dir(0, 3, 4)
	x.dir(0, 4)
	mustFind(t, "all trees", x, find(6, 2, 0), find(6, 3, 0))
	x.dir(0, 1, 5)
	x.dir(0, 5, 4)
	x.taken[0] = 0
	x.lay(geo.Bitmap(small, 0), bitmap.Put(store.Used(x.b, 0)))
	mustFind(t, "one deeper", x, find(6, 2, 0), find(6, 3, 0))
}

// P14.2: live inodes that nothing names, and those that only such a one names; free ones are none.
func TestOrphan(t *testing.T) {
	for _, kind := range []int{api.Dir, api.File, api.Link, api.White} {
		x := empty(t, small)
		x.inode(0, 6, api.Inode{Kind: kind, Nlink: 1})
		mustFind(t, "an orphan", x, find(7, 6, -1))
		x.dir(0, 4, 6)
		mustFind(t, "named by an orphan", x, find(7, 4, -1), find(7, 6, -1))
		for _, tree := range []int{1, 2, 3} {
			x.dir(0, tree, 4)
			mustFind(t, "named", x)
			x.inode(0, tree, inode.Fresh())
			x.taken[0]--
			x.fit(0)
		}
	}
	x := empty(t, small)
	x.dir(0, 4, 5)
	x.dir(0, 5, 4, 5, 8)
	x.file(0, 8)
	mustFind(t, "a ring of orphans", x, find(7, 4, -1), find(7, 5, -1), find(7, 8, -1))
}

// P14.2: a bitmap with one bit more, one fewer, and with bytes that no bitmap has.
func TestBitmap(t *testing.T) {
	x := empty(t, small)
	x.dir(0, 1, 4, 5, 6, 7, 8)
	x.dir(0, 4)
	x.file(0, 5)
	x.file(0, 6)
	x.file(0, 7)
	x.inode(0, 8, api.Inode{Kind: api.File, Nlink: 1, Ptr: [4]int{12}})
	at := 64 * geo.Bitmap(small, 0)
	mustFind(t, "one fewer", x, find(21, 0, -1))
	x.b[at+1] = 8
	mustFind(t, "as it should be", x)
	for i := range 512 {
		x.b[at+i/8] ^= 1 << (i % 8)
		mustFind(t, "another bit", x, find(21, 0, -1))
		x.b[at+i/8] ^= 1 << (i % 8)
	}
	right := bytes.Clone(x.b[at : at+64])
	for _, b := range [][]byte{make([]byte, 64), bytes.Repeat([]byte{255}, 64), append(bytes.Clone(right[:60]), 9, 0, 0, 1)} {
		x.lay(geo.Bitmap(small, 0), b)
		mustFind(t, "other bytes", x, find(21, 0, -1))
	}
	x.lay(geo.Bitmap(small, 0), right)
	mustFind(t, "as it was", x)
	y := zero(t, small)
	y.b[64*geo.Bitmap(small, 0)] = 1
	mustFind(t, "of no blocks", y, find(3, 1, -1), find(3, 2, -1), find(3, 3, -1), find(21, 0, -1))
}

// P14.2: what branch.Decode finds of the upper layer is told, with all else, in the order of Clause, Ino, Slot.
func TestUpperOrder(t *testing.T) {
	x := empty(t, small)
	x.dir(0, 1, 8, 7, 7, 2, 9)
	x.dir(0, 2, 7, 8)
	y := inode.Fresh()
	y.Ptr, y.Attr = [4]int{1, 0, 99}, x.block(0, bytes.Repeat([]byte{5}, 64))
	x.inode(0, 3, y)
	x.dir(0, 7, 7)
	y.Ptr, y.Attr = [4]int{0, 1}, x.block(0, make([]byte, 64))
	x.inode(0, 8, y)
	x.file(0, 4)
	x.lay(geo.Inode(small, 0, 5), bytes.Repeat([]byte{1}, 64))
	x.b[64*geo.Bitmap(small, 0)] = 0
	mustFind(t, "all clauses but one", x,
		find(1, 3, 0), find(1, 3, 2), find(1, 8, 1),
		find(2, 3, -1), find(2, 8, -1),
		find(4, 5, -1),
		find(5, 1, 3), find(5, 1, 4),
		find(6, 1, 2), find(6, 2, 0), find(6, 2, 1), find(6, 7, 0),
		find(7, 4, -1),
		find(21, 0, -1))
	x.free(0, 2)
	x.file(0, 1)
	x.b[64*geo.Bitmap(small, 0)] = 5
	l, e := store.Upper(x.b)
	if e != api.OK || !slices.IsSortedFunc(l, order) || !slices.Contains(l, find(3, 1, -1)) || !slices.Contains(l, find(3, 2, -1)) {
		t.Errorf("Upper: %v, %d", l, e)
	}
}

// P14.2: as many findings of each directory as it has slots, in their order.
func TestUpperManySlots(t *testing.T) {
	x := empty(t, small)
	all := slices.Repeat([]int{5}, 16)
	var want []api.Finding
	for _, ino := range []int{1, 3, 5} {
		x.dir(0, ino, all...)
		for slot := range 16 {
			if ino > 1 || slot > 0 {
				want = append(want, find(6, ino, slot))
			}
		}
	}
	mustFind(t, "all slots", x, want...)
	for ino := 6; ino <= 8; ino++ {
		x.file(0, ino)
		want = append(want, find(7, ino, -1))
	}
	x.b[64*geo.Bitmap(small, 0)] = 0
	mustFind(t, "all slots, and more", x, append(want, find(21, 0, -1))...)
}

// tree is an image whose lower layers are trees of some depth.
func tree(t *testing.T) *image {
	x := empty(t, small)
	for layer := 1; layer <= 2; layer++ {
		x.dir(layer, 1, 2, 3, 3)
		x.dir(layer, 2, 4, 3)
		x.file(layer, 3)
		x.dir(layer, 4)
	}
	return x
}

// P14.3: the upper layer, and those that there are not, are not whole.
func TestWholeLayers(t *testing.T) {
	x := tree(t)
	mustBeWhole(t, "trees", x, true, true, false)
	for _, layer := range append(sample.Far(), -1, 0, 3, 4) {
		if store.Whole(x.b, layer) {
			t.Errorf("layer %d is whole", layer)
		}
	}
	x.free(0, 2)
	x.free(0, 3)
	if store.Whole(x.b, 0) {
		t.Error("an upper layer of a Root alone is whole")
	}
	for lowers := 1; lowers <= 3; lowers++ {
		y := empty(t, api.Geo{Lowers: lowers, Inodes: 4, Blocks: 1, Log: 1})
		for layer := -1; layer <= 4; layer++ {
			if got := store.Whole(y.b, layer); got != (layer >= 1 && layer <= lowers) {
				t.Errorf("Whole of layer %d of %d: %v", layer, lowers, got)
			}
		}
	}
}

// P14.3: each of the four broken alone, in one layer: the other one stays whole.
func TestWholeBroken(t *testing.T) {
	breaks := map[string]func(x *image, layer int){
		"a pointer":           func(x *image, layer int) { x.inode(layer, 4, api.Inode{Kind: api.Dir, Nlink: 2, Ptr: [4]int{99}}) },
		"one of a free inode": func(x *image, layer int) { x.inode(layer, 3, api.Inode{Kind: api.File, Ptr: [4]int{0, 0, 0, 1}}) },
		"attributes":          func(x *image, layer int) { x.inode(layer, 4, api.Inode{Kind: api.Dir, Nlink: 2, Attr: 9}) },
		"an inode":            func(x *image, layer int) { x.lay(geo.Inode(small, layer, 8), bytes.Repeat([]byte{1}, 64)) },
		"an entry of Root":    func(x *image, layer int) { x.dir(layer, 4, 1) },
		"an entry of none":    func(x *image, layer int) { x.dir(layer, 4, 8) },
		"one behind the last": func(x *image, layer int) { x.dir(layer, 4, 9) },
		"a free Root": func(x *image, layer int) {
			for ino := 1; ino <= 4; ino++ {
				x.free(layer, ino)
			}
		},
		"twice, by one":        func(x *image, layer int) { x.dir(layer, 2, 4, 3, 4) },
		"twice, by two":        func(x *image, layer int) { x.dir(layer, 1, 2, 3, 3, 4) },
		"twice, by itself":     func(x *image, layer int) { x.dir(layer, 4, 4) },
		"twice, by a lower":    func(x *image, layer int) { x.dir(layer, 4, 2) },
		"an orphan":            func(x *image, layer int) { x.file(layer, 8) },
		"an orphaned Dir":      func(x *image, layer int) { x.dir(layer, 5, 3) },
		"a live Work":          func(x *image, layer int) { x.dir(layer, 2); x.dir(layer, 1, 3, 4) },
		"a ring of its own":    func(x *image, layer int) { x.dir(layer, 5, 6); x.dir(layer, 6, 5) },
		"a Root that's a File": func(x *image, layer int) { x.file(layer, 1) },
	}
	for why, spoil := range breaks {
		for layer := 1; layer <= 2; layer++ {
			x := tree(t)
			spoil(x, layer)
			mustBeWhole(t, why, x, layer != 1, layer != 2)
			mustFind(t, why, x)
		}
	}
}

// P14.3: neither bitmaps, nor the upper layer, nor the log, nor what nodes say of themselves, are asked.
func TestWholeAsksNoMore(t *testing.T) {
	x := tree(t)
	x.lay(geo.Bitmap(small, 1), bytes.Repeat([]byte{255}, 64))
	x.inode(2, 3, api.Inode{Kind: api.White, Nlink: 9, Impure: 3})
	for at := 64 * geo.Bitmap(small, 0); at < len(x.b); at++ {
		x.b[at] = byte(at) | 1
	}
	mustBeWhole(t, "others that are wrong", x, true, true)
}

func order(a, b api.Finding) int {
	return cmp.Or(cmp.Compare(a.Clause, b.Clause), cmp.Compare(a.Ino, b.Ino), cmp.Compare(a.Slot, b.Slot))
}

// walked is a walk by the chapter's words: who was come to, who is named there, and slots that brought none.
func walked(b api.Branch, from ...int) (map[int]bool, map[int]bool, [][2]int) {
	come, named := map[int]bool{}, map[int]bool{}
	var list []int
	var twice [][2]int
	for _, ino := range from {
		if b.Nodes[ino-1].Kind == api.Dir && !come[ino] {
			come[ino], named[ino] = true, true
			list = append(list, ino)
		}
		for ; len(list) > 0; list = list[1:] {
			for _, e := range b.Nodes[list[0]-1].Entries {
				named[e.Ino] = true
				if b.Nodes[e.Ino-1].Kind != api.Dir {
					continue
				}
				if come[e.Ino] {
					twice = append(twice, [2]int{list[0], e.Slot})
					continue
				}
				come[e.Ino] = true
				list = append(list, e.Ino)
			}
		}
	}
	return come, named, twice
}

// wrong is what Upper finds, by the chapter's words.
func wrong(x *image) []api.Finding {
	l := branch.Cut(x.geo, x.b, 0)
	b, findings := branch.Decode(x.geo, l, 3, 0)
	come, named, twice := walked(b, 1, 3, 2)
	for _, ino := range []int{1, 2, 3} {
		if !come[ino] {
			findings = append(findings, find(api.ClauseSpecial, ino, -1))
		}
	}
	for _, p := range twice {
		findings = append(findings, find(api.ClauseTwice, p[0], p[1]))
	}
	for i, n := range b.Nodes {
		if n.Kind != api.Free && !named[i+1] {
			findings = append(findings, find(api.ClauseOrphan, i+1, -1))
		}
	}
	if !bytes.Equal(l[0], bitmap.Put(store.Used(x.b, 0))) {
		findings = append(findings, find(api.ClauseBitmap, 0, -1))
	}
	slices.SortFunc(findings, order)
	return findings
}

// whole is what Whole tells of a lower layer, by the chapter's words.
func whole(x *image, layer int) bool {
	b, findings := branch.Decode(x.geo, branch.Cut(x.geo, x.b, layer), 1, layer)
	come, named, twice := walked(b, 1)
	ok := len(findings) == 0 && come[1] && len(twice) == 0
	for i, n := range b.Nodes {
		ok = ok && (n.Kind == api.Free || named[i+1])
	}
	return ok
}

// names is who names whom in a layer: each live inode stands in a directory ahead of it, but now and then in none, or in some other one too.
func names(r *rand.Rand, g api.Geo, special int) map[int][]int {
	dirs := map[int][]int{}
	for ino := 1; ino <= special; ino++ {
		dirs[ino] = nil
	}
	name := func(ino int) {
		for range 5 {
			d := 1 + r.Intn(g.Inodes)
			if l, is := dirs[d]; is && len(l) < 16 {
				dirs[d] = append(l, ino)
				return
			}
		}
	}
	for ino := special + 1; ino <= g.Inodes; ino++ {
		if r.Intn(4) > 0 {
			name(ino)
		}
		if r.Intn(2) == 0 {
			dirs[ino] = nil
		}
	}
	for range r.Intn(6) / 4 {
		name(1 + r.Intn(g.Inodes+1))
	}
	return dirs
}

// some is an image of any layers; most of their names lead somewhere, and a byte or two are other ones.
func some(t *testing.T, r *rand.Rand) *image {
	x := empty(t, api.Geo{Lowers: 1 + r.Intn(3), Inodes: 4 + r.Intn(6), Blocks: 40, Log: 1})
	for layer := range x.geo.Lowers + 1 {
		special := 1
		if layer == 0 {
			special = 3
		}
		dirs := names(r, x.geo, special)
		named := slices.Concat(slices.Collect(maps.Values(dirs))...)
		for ino := 1; ino <= x.geo.Inodes; ino++ {
			inos, is := dirs[ino]
			switch kind := 2 + r.Intn(3); {
			case is && (ino <= special || slices.Contains(named, ino) || r.Intn(9) == 0):
				x.dir(layer, ino, inos...)
			case ino > special && slices.Contains(named, ino) || r.Intn(9) == 0:
				x.inode(layer, ino, api.Inode{Kind: kind, Nlink: 1, Attr: r.Intn(40) / 39})
			default:
				x.free(layer, ino)
			}
		}
		if r.Intn(12) == 0 {
			x.free(layer, 1+r.Intn(x.geo.Inodes))
		}
	}
	for range r.Intn(4) / 2 {
		x.b[64+r.Intn(len(x.b)-64)] ^= 1 << r.Intn(8)
	}
	return x
}

// P14.1 to P14.4: many images, held against the model; a layer that is whole is not pruned.
func TestMany(t *testing.T) {
	r := rand.New(rand.NewSource(1))
	for range 4000 {
		x := some(t, r)
		before := bytes.Clone(x.b)
		mustFind(t, "any image", x, wrong(x)...)
		s, e := store.Stack(x.b)
		if e != api.OK || s.Geo != x.geo || len(s.Lowers) != x.geo.Lowers {
			t.Fatal(s, e)
		}
		if b, _ := branch.Decode(x.geo, branch.Cut(x.geo, x.b, 0), 3, 0); !alike(s.Upper, b) {
			t.Errorf("Stack: the upper layer: %v, not %v", s.Upper, b)
		}
		for i, l := range s.Lowers {
			b, _ := branch.Decode(x.geo, branch.Cut(x.geo, x.b, i+1), 1, i+1)
			if !alike(l, walk.Prune(b, 1)) {
				t.Errorf("Stack: layer %d: %v, not %v, pruned", i+1, l, b)
			}
			is := store.Whole(x.b, i+1)
			if is != whole(x, i+1) || is && !alike(l, b) {
				t.Errorf("layer %d is whole: %v: %v", i+1, is, b)
			}
			mustBeTree(t, l)
		}
		if !bytes.Equal(x.b, before) {
			t.Fatal("the image is changed")
		}
	}
}

// mustBeTree wants each Dir but the Root named once, the Root never, and all that is live named (P14.4).
func mustBeTree(t *testing.T, b api.Branch) {
	t.Helper()
	names := make([]int, len(b.Nodes)+1)
	for _, n := range b.Nodes {
		for _, e := range n.Entries {
			names[e.Ino]++
		}
	}
	for i, n := range b.Nodes {
		if i == 0 && (names[1] != 0 || n.Kind != api.Dir && n.Kind != api.Free) {
			t.Errorf("the Root of %v", b)
		}
		if i > 0 && (n.Kind == api.Dir && names[i+1] != 1 || n.Kind != api.Free && names[i+1] == 0) {
			t.Errorf("inode %d is named %d times in %v", i+1, names[i+1], b)
		}
	}
	if come, _, twice := walked(b, 1); len(twice) != 0 {
		t.Errorf("named twice in %v: %v, %v", b, come, twice)
	}
}

// Upper's findings are each told once.
func TestToldOnce(t *testing.T) {
	r := rand.New(rand.NewSource(2))
	for range 500 {
		l, _ := store.Upper(some(t, r).b)
		if n := len(l); len(slices.Compact(l)) != n {
			t.Errorf("told twice: %v", l)
		}
	}
}

// spoil writes over all that a branch holds.
func spoil(b api.Branch) {
	for _, n := range b.Nodes {
		for i := range n.Data[:cap(n.Data)] {
			n.Data[:cap(n.Data)][i] ^= 255
		}
		clear(n.Entries[:cap(n.Entries)])
	}
	clear(b.Nodes[:cap(b.Nodes)])
}

// The answers share no memory with the image, nor with other answers; the image stays as it is.
func TestAnswersShareNothing(t *testing.T) {
	x := tree(t)
	for layer := range 3 {
		data := x.block(layer, bytes.Repeat([]byte{byte(layer) + 7}, 64))
		x.inode(layer, 3, api.Inode{Kind: api.File, Nlink: 1, Size: 60, Ptr: [4]int{data}})
	}
	before := bytes.Clone(x.b)
	want, _ := store.Stack(before)
	kept, _ := store.Stack(x.b)
	s, _ := store.Stack(x.b)
	spoil(s.Upper)
	for _, b := range s.Lowers {
		spoil(b)
	}
	clear(s.Lowers[:cap(s.Lowers)])
	findings, _ := store.Upper(x.b)
	again, _ := store.Upper(x.b)
	told := slices.Clone(again)
	clear(findings[:cap(findings)])
	used, usedAgain := store.Used(x.b, 1), store.Used(x.b, 1)
	clear(used[:cap(used)])
	if !bytes.Equal(x.b, before) {
		t.Error("the image is changed")
	}
	clear(x.b)
	if !alikeStacks(kept, want) || len(want.Lowers[1].Nodes[2].Data) != 60 {
		t.Error("a stack changes with the image, or with another answer")
	}
	if !slices.Equal(again, told) || len(again) == 0 || !slices.Equal(usedAgain, store.Used(before, 1)) || !slices.Contains(usedAgain, true) {
		t.Errorf("findings, or bits, change with the image, or with another answer: %v, %v", again, usedAgain)
	}
}
