package branch_test

import (
	"bytes"
	"math"
	"math/rand"
	"reflect"
	"slices"
	"strconv"
	"testing"

	"craquelure/api"
	"craquelure/attr"
	"craquelure/branch"
	"craquelure/entry"
	"craquelure/inode"
	"craquelure/sample"
)

// small is a layout of 6 inodes and 8 blocks; a layer has 15 sectors.
var small = api.Geo{Lowers: 2, Inodes: 6, Blocks: 8, Log: 3}

// wrongLayouts is layouts of which one number alone is wrong, or all are.
func wrongLayouts() []api.Geo {
	l := []api.Geo{{}, {Lowers: math.MaxInt, Inodes: math.MaxInt, Blocks: math.MaxInt, Log: math.MaxInt}}
	for _, n := range append(sample.Far(), -1, 0) {
		l = append(l,
			api.Geo{Lowers: n, Inodes: 6, Blocks: 8, Log: 3}, api.Geo{Lowers: 2, Inodes: n, Blocks: 8, Log: 3},
			api.Geo{Lowers: 2, Inodes: 6, Blocks: n, Log: 3}, api.Geo{Lowers: 2, Inodes: 6, Blocks: 8, Log: n})
	}
	return append(l,
		api.Geo{Lowers: 4, Inodes: 6, Blocks: 8, Log: 3}, api.Geo{Lowers: 2, Inodes: 3, Blocks: 8, Log: 3},
		api.Geo{Lowers: 2, Inodes: 25, Blocks: 8, Log: 3}, api.Geo{Lowers: 2, Inodes: 6, Blocks: 61, Log: 3},
		api.Geo{Lowers: 2, Inodes: 6, Blocks: 8, Log: 65})
}

// blank is the sectors of a layer, all bytes 0.
func blank(g api.Geo) [][]byte {
	l := make([][]byte, 1+g.Inodes+g.Blocks)
	for i := range l {
		l[i] = make([]byte, 64)
	}
	return l
}

// lay is a layer of the layout small: these inodes from 1 on, and these blocks from 0 on.
func lay(t *testing.T, inodes []api.Inode, blocks ...[]byte) [][]byte {
	t.Helper()
	l := blank(small)
	for i, x := range inodes {
		b, e := inode.Put(x)
		if e != api.OK {
			t.Fatalf("inode %v: %d", x, e)
		}
		l[1+i] = b
	}
	copy(l[1+small.Inodes:], blocks)
	return l
}

// mixed is n bytes, none of them 0, that hardly repeat.
func mixed(n, seed int) []byte {
	b := make([]byte, n)
	x := uint32(seed + 1)
	for i := range b {
		x = x*1664525 + 1013904223
		b[i] = byte(x>>16)%255 + 1
	}
	return b
}

func mustPut(t *testing.T, a api.Attr) []byte {
	t.Helper()
	b, e := attr.Put(a)
	if e != api.OK {
		t.Fatalf("attributes %v: %d", a, e)
	}
	return b
}

// plain is nodes in which lists that have nothing are nil.
func plain(b api.Branch) api.Branch {
	var l []api.Node
	for _, n := range b.Nodes {
		if len(n.Data) == 0 {
			n.Data = nil
		}
		if len(n.Entries) == 0 {
			n.Entries = nil
		}
		l = append(l, n)
	}
	return api.Branch{Nodes: l}
}

func alike(a, b api.Branch) bool {
	return reflect.DeepEqual(plain(a), plain(b))
}

// mustDecode wants these nodes, from inode 1 on, all others being zero, and these findings.
func mustDecode(t *testing.T, why string, l [][]byte, special, layer int, nodes []api.Node, findings ...api.Finding) {
	t.Helper()
	want := api.Branch{Nodes: make([]api.Node, small.Inodes)}
	copy(want.Nodes, nodes)
	b, f := branch.Decode(small, l, special, layer)
	if !alike(b, want) {
		t.Errorf("%s: %v, not %v", why, b, want)
	}
	if !slices.Equal(f, findings) {
		t.Errorf("%s: findings %v, not %v", why, f, findings)
	}
}

// P12.1: the sectors of each layer, the bitmap, the inodes, the blocks: the lower ones from sector 1 on, the upper one behind them.
func TestCut(t *testing.T) {
	for _, g := range []api.Geo{{Lowers: 1, Inodes: 4, Blocks: 1, Log: 1}, {Lowers: 1, Inodes: 4, Blocks: 2, Log: 3}, small, {Lowers: 3, Inodes: 24, Blocks: 60, Log: 64}} {
		span := 1 + g.Inodes + g.Blocks
		b := mixed(64*(1+(g.Lowers+1)*span+g.Log), 1)
		before := bytes.Clone(b)
		for layer := 0; layer <= g.Lowers; layer++ {
			first := 1 + (layer-1)*span
			if layer == 0 {
				first = 1 + g.Lowers*span
			}
			l := branch.Cut(g, b, layer)
			if len(l) != span {
				t.Fatalf("Cut(%v) of layer %d: %d sectors", g, layer, len(l))
			}
			for i, s := range l {
				if !bytes.Equal(s, b[64*(first+i):64*(first+i+1)]) {
					t.Errorf("Cut(%v) of layer %d: sector %d: %v", g, layer, i, s)
				}
			}
		}
		if !bytes.Equal(b, before) {
			t.Errorf("Cut(%v) changes the image", g)
		}
	}
}

// P12.1: the example of chapter 6, by its numbers.
func TestCutExample(t *testing.T) {
	g := api.Geo{Lowers: 1, Inodes: 4, Blocks: 2, Log: 3}
	b := make([]byte, 64*18)
	for i := range 18 {
		b[64*i], b[64*i+63] = byte(i), byte(100+i)
	}
	for layer, first := range []byte{8, 1} {
		l := branch.Cut(g, b, layer)
		if len(l) != 7 {
			t.Fatalf("layer %d: %d sectors", layer, len(l))
		}
		for i, s := range l {
			if len(s) != 64 || s[0] != first+byte(i) || s[63] != 100+first+byte(i) {
				t.Errorf("layer %d, sector %d: %v", layer, i, s)
			}
		}
	}
}

func mustCutNothing(t *testing.T, why string, g api.Geo, b []byte, layer int) {
	t.Helper()
	if l := branch.Cut(g, b, layer); len(l) != 0 {
		t.Errorf("%s: Cut(%v) of %d bytes, layer %d: %d sectors", why, g, len(b), layer, len(l))
	}
}

// P12.1: nothing of layers that there are not, of images of another length, and of layouts that are not right.
func TestCutNothing(t *testing.T) {
	for lowers := 1; lowers <= 3; lowers++ {
		g := api.Geo{Lowers: lowers, Inodes: 6, Blocks: 8, Log: 3}
		total := 64 * (1 + (lowers+1)*15 + 3)
		b := mixed(2*total, 2)
		for _, layer := range append(sample.Far(), -1, lowers+1, lowers+2) {
			mustCutNothing(t, "no such layer", g, b[:total], layer)
		}
		for layer := 0; layer <= lowers; layer++ {
			if len(branch.Cut(g, b[:total], layer)) != 15 {
				t.Errorf("layer %d of %v", layer, g)
			}
			for _, n := range []int{0, 1, 63, 64, 65, total - 128, total - 65, total - 64, total - 63, total - 1, total + 1, total + 63, total + 64, total + 65, 2 * total} {
				mustCutNothing(t, "another length", g, b[:n], layer)
			}
			mustCutNothing(t, "no image", g, nil, layer)
		}
	}
	b := mixed(64*49, 3)
	for _, g := range wrongLayouts() {
		for layer := -1; layer <= 4; layer++ {
			mustCutNothing(t, "a wrong layout", g, b, layer)
			mustCutNothing(t, "a wrong layout", g, nil, layer)
		}
	}
}

// rightLayer is a layer of small of which each call tells something.
func rightLayer(t *testing.T) [][]byte {
	return lay(t, []api.Inode{
		{Kind: api.Dir, Nlink: 2, Ptr: [4]int{1}, Attr: 2},
		{Kind: api.File, Nlink: 1, Size: 3, Ptr: [4]int{3}},
		{},
		{Kind: api.Link, Nlink: 9, Gen: 4, Size: 64, Ptr: [4]int{99}},
	}, entry.Block([]api.Entry{{Slot: 0, Ino: 2, Name: "f"}, {Slot: 3, Ino: 5, Name: "g"}}, 0),
		mustPut(t, api.Attr{Has: api.HasOpaque, Opaque: api.Mark}), mixed(64, 4))
}

// P12.1: lists of one sector fewer and one more, and layouts that are not right: nothing is told, and nothing is found.
func TestOtherLists(t *testing.T) {
	right := rightLayer(t)
	inodes, _ := branch.Inodes(small, right)
	nothing := func(why string, g api.Geo, l [][]byte) {
		t.Helper()
		if x, none := branch.Inodes(g, l); len(x) != 0 || len(none) != 0 {
			t.Errorf("%s: Inodes: %v, %v", why, x, none)
		}
		for ino := -1; ino <= 7; ino++ {
			if b := branch.Data(l, g, inodes, ino); len(b) != 0 {
				t.Errorf("%s: Data of %d: %v", why, ino, b)
			}
		}
		for special := range 4 {
			if b, f := branch.Decode(g, l, special, 0); len(b.Nodes) != 0 || len(f) != 0 {
				t.Errorf("%s: Decode: %v, %v", why, b, f)
			}
		}
	}
	if b, f := branch.Decode(small, right, 1, 0); len(b.Nodes) != 6 || len(f) != 2 || len(inodes) != 6 || len(branch.Data(right, small, inodes, 2)) != 3 {
		t.Fatalf("the right list: %v, %v", b, f)
	}
	nothing("one sector fewer", small, right[:14])
	nothing("without the bitmap", small, right[1:])
	nothing("one sector more", small, append(slices.Clone(right), make([]byte, 64)))
	nothing("twice", small, append(slices.Clone(right), right...))
	nothing("one sector", small, right[:1])
	nothing("no sectors", small, nil)
	nothing("other inodes", api.Geo{Lowers: 2, Inodes: 7, Blocks: 8, Log: 3}, right)
	nothing("other blocks", api.Geo{Lowers: 2, Inodes: 6, Blocks: 7, Log: 3}, right)
	for _, g := range wrongLayouts() {
		nothing("a wrong layout", g, right)
		nothing("a wrong layout, no sectors", g, nil)
		if n := 1 + g.Inodes + g.Blocks; n >= 0 && n < 1000 {
			nothing("a wrong layout, as many sectors as it says", g, make([][]byte, n))
		}
	}
}

// P12.1: of the same number of sectors each layout reads what it says.
func TestSectorsOfLayouts(t *testing.T) {
	file, e := inode.Put(api.Inode{Kind: api.File, Nlink: 1, Size: 64, Ptr: [4]int{1}})
	if e != api.OK {
		t.Fatal(e)
	}
	for inodes := 4; inodes <= 13; inodes++ {
		g := api.Geo{Lowers: 1, Inodes: inodes, Blocks: 14 - inodes, Log: 1}
		l := make([][]byte, 15)
		for i := range l {
			l[i] = bytes.Repeat([]byte{byte(i)}, 64)
		}
		l[1], l[inodes] = file, make([]byte, 64)
		b, _ := branch.Decode(g, l, 1, 0)
		if len(b.Nodes) != inodes || !bytes.Equal(b.Nodes[0].Data, l[inodes+1]) {
			t.Errorf("%d inodes: %v", inodes, b)
		}
		x, none := branch.Inodes(g, l)
		if len(x) != inodes || len(none) != inodes-2 || slices.Contains(none, 1) || slices.Contains(none, inodes) {
			t.Errorf("%d inodes: %v, %v", inodes, x, none)
		}
	}
}

// P12.2: each inode, and those that are none.
func TestInodes(t *testing.T) {
	dir := api.Inode{Kind: api.Dir, Nlink: 2, Impure: 7, Gen: 1<<28 - 1, Ptr: [4]int{1, 9, 1, 65535}, Attr: 1}
	file := api.Inode{Kind: api.File, Nlink: 65535, Size: 256, Ptr: [4]int{8}}
	good := []api.Inode{dir, file, {}, {Kind: api.White, Attr: 3}, {Kind: api.Link, Size: 1}, dir}
	spoiled := [][]byte{bytes.Repeat([]byte{255}, 64), append(make([]byte, 63), 1), nil, {}, make([]byte, 63), make([]byte, 65), mixed(64, 5)}
	for set := range 1 << 6 {
		l := lay(t, good)
		l[0] = mixed(64, 6) // the bitmap is not asked
		want := slices.Clone(good)
		var none []int
		for i := range 6 {
			if set>>i&1 == 1 {
				l[1+i] = spoiled[(set+i)%len(spoiled)]
				want[i] = api.Inode{}
				none = append(none, i+1)
			}
		}
		x, bad := branch.Inodes(small, l)
		if !slices.Equal(x, want) || !slices.Equal(bad, none) {
			t.Errorf("spoiled %b: %v, %v", set, x, bad)
		}
	}
}

// fourBlocks is a layer whose first four blocks are mixed bytes, and those bytes.
func fourBlocks(t *testing.T) ([][]byte, []byte) {
	whole := mixed(256, 7)
	return lay(t, nil, whole[:64], whole[64:128], whole[128:192], whole[192:]), whole
}

func mustData(t *testing.T, why string, l [][]byte, inodes []api.Inode, ino int, want []byte) {
	t.Helper()
	if got := branch.Data(l, small, inodes, ino); !bytes.Equal(got, want) {
		t.Errorf("%s: Data of inode %d: %v, not %v", why, ino, got, want)
	}
}

// P12.2: each Size, of each kind.
func TestDataSizes(t *testing.T) {
	l, whole := fourBlocks(t)
	for _, kind := range []int{math.MinInt, -1, api.Free, api.Dir, api.File, api.Link, api.White, 5, math.MaxInt} {
		sizes := append(sample.Far(), -1, 257)
		for size := range 257 {
			sizes = append(sizes, size)
		}
		for _, size := range sizes {
			var want []byte
			if kind == api.File || kind == api.Link {
				want = whole[:max(0, min(256, size))]
			}
			x := api.Inode{Kind: kind, Size: size, Ptr: [4]int{1, 2, 3, 4}}
			mustData(t, "kind "+strconv.Itoa(kind)+", size "+strconv.Itoa(size), l, []api.Inode{{}, x}, 2, want)
		}
	}
}

// P12.2: bytes 0 for pointers that are 0, and for those that do not count; blocks in the order of the pointers.
func TestDataPointers(t *testing.T) {
	l, whole := fourBlocks(t)
	block := func(n int) []byte {
		if n == 0 {
			return make([]byte, 64)
		}
		return whole[64*(n-1) : 64*n]
	}
	for _, c := range []struct {
		why   string
		ahead api.Inode
		ptr   [4]int
		attr  int
		want  [4]int
	}{
		{"in order", api.Inode{}, [4]int{1, 2, 3, 4}, 0, [4]int{1, 2, 3, 4}},
		{"in another order", api.Inode{}, [4]int{4, 2, 1, 3}, 0, [4]int{4, 2, 1, 3}},
		{"none", api.Inode{}, [4]int{}, 0, [4]int{}},
		{"some", api.Inode{}, [4]int{0, 3, 0, 1}, 0, [4]int{0, 3, 0, 1}},
		{"one twice", api.Inode{}, [4]int{2, 2, 3, 2}, 0, [4]int{2, 0, 3, 0}},
		{"one beyond all blocks", api.Inode{}, [4]int{9, 2, 65535, 4}, 0, [4]int{0, 2, 0, 4}},
		{"below 0, and far off", api.Inode{}, [4]int{-1, math.MinInt, math.MaxInt, 4}, 0, [4]int{0, 0, 0, 4}},
		{"one that is named ahead", api.Inode{Kind: api.File, Ptr: [4]int{0, 3}}, [4]int{1, 2, 3, 4}, 0, [4]int{1, 2, 0, 4}},
		{"one that is Attr ahead", api.Inode{Kind: api.White, Attr: 1}, [4]int{1, 2, 3, 4}, 0, [4]int{0, 2, 3, 4}},
		{"one that one of Kind Free names ahead", api.Inode{Ptr: [4]int{4}}, [4]int{1, 2, 3, 4}, 0, [4]int{1, 2, 3, 0}},
		{"its own Attr behind", api.Inode{}, [4]int{1, 2, 3, 4}, 2, [4]int{1, 2, 3, 4}},
		{"Attr is none of its blocks", api.Inode{}, [4]int{0, 2}, 1, [4]int{0, 2}},
	} {
		for _, kind := range []int{api.File, api.Link} {
			x := api.Inode{Kind: kind, Size: 256, Ptr: c.ptr, Attr: c.attr}
			want := slices.Concat(block(c.want[0]), block(c.want[1]), block(c.want[2]), block(c.want[3]))
			mustData(t, c.why, l, []api.Inode{c.ahead, x}, 2, want)
			mustData(t, c.why+", and one that names all behind", l, []api.Inode{c.ahead, x, {Kind: api.File, Ptr: [4]int{1, 2, 3, 4}}}, 2, want)
			x.Size = 100
			mustData(t, c.why+", in part", l, []api.Inode{c.ahead, x}, 2, want[:100])
		}
	}
}

// P12.2: nothing of inodes that there are not; lists of more and fewer inodes than the layer has.
func TestDataInodes(t *testing.T) {
	l, whole := fourBlocks(t)
	x := api.Inode{Kind: api.File, Size: 70, Ptr: [4]int{1, 2}}
	y := api.Inode{Kind: api.Link, Size: 65, Ptr: [4]int{4, 3}}
	inodes := []api.Inode{x, y}
	mustData(t, "the first one", l, inodes, 1, whole[:70])
	mustData(t, "the last one", l, inodes, 2, append(bytes.Clone(whole[192:]), whole[128]))
	for _, ino := range append(sample.Far(), -1, 0, 3, 4, 6, 7) {
		mustData(t, "no such inode", l, inodes, ino, nil)
		mustData(t, "no inodes", l, nil, ino, nil)
	}
	long := append(make([]api.Inode, 30), y)
	mustData(t, "behind all inodes of the layer", l, long, 31, append(bytes.Clone(whole[192:]), whole[128]))
	mustData(t, "behind the last one of them", l, long, 32, nil)
}

// P12.2: sectors that have not 64 bytes: a block's bytes that are not there are 0, and those that are too many are none.
func TestDataOtherSectors(t *testing.T) {
	l, whole := fourBlocks(t)
	l[7], l[8], l[10] = nil, whole[64:74], append(bytes.Clone(whole[192:]), 9, 9)
	want := bytes.Clone(whole)
	clear(want[:64])
	clear(want[74:128])
	mustData(t, "other sectors", l, []api.Inode{{Kind: api.File, Size: 256, Ptr: [4]int{1, 2, 3, 4}}}, 1, want)
	l[9] = bytes.Repeat([]byte{8}, 300)
	copy(want[128:192], bytes.Repeat([]byte{8}, 64))
	mustData(t, "a long one ahead", l, []api.Inode{{Kind: api.File, Size: 256, Ptr: [4]int{1, 2, 3, 4}}}, 1, want)
	clear(want[192:])
	mustData(t, "a long one ahead of none", l, []api.Inode{{Kind: api.File, Size: 256, Ptr: [4]int{1, 2, 3}}}, 1, want)
}

// P12.3: the chapter's example.
func TestDecodeZero(t *testing.T) {
	for special := -1; special <= 3; special++ {
		mustDecode(t, "bytes 0", blank(small), special, 0, nil)
	}
}

// P12.3: Kind, Impure, Nlink, Gen, Data, Attr and Entries of each kind.
func TestDecode(t *testing.T) {
	whole := mixed(64, 8)
	full := api.Attr{Has: 31, Opaque: 5, Redirect: "/a/b", Origin: api.Origin{Layer: 1, Ino: 2, Gen: 3}, Shown: 4}
	mark := api.Attr{Has: api.HasOpaque, Opaque: api.Mark}
	l := lay(t, []api.Inode{
		{Kind: api.Dir, Impure: 121, Nlink: 3, Gen: 5, Ptr: [4]int{0, 2, 0, 1}, Attr: 8},
		{Kind: api.File, Impure: 255, Nlink: 65535, Gen: 1<<28 - 1, Size: 130, Ptr: [4]int{3, 0, 4}, Attr: 5},
		{},
		{Kind: api.Link, Nlink: 1, Size: 4, Ptr: [4]int{6}},
		{Kind: api.White, Impure: 1, Nlink: 7, Gen: 2, Attr: 7},
		{Kind: api.Dir, Nlink: 2},
	},
		entry.Block([]api.Entry{{Slot: 12, Ino: 5, Name: "w"}, {Slot: 15, Ino: 2, Name: "abcdefghijkl"}}, 3),
		entry.Block([]api.Entry{{Slot: 5, Ino: 6, Name: "d"}, {Slot: 6, Ino: 2, Name: "f"}, {Slot: 7, Ino: 4, Name: "l"}}, 1),
		whole, []byte(string(bytes.Repeat([]byte{7}, 64))), mustPut(t, full), append([]byte("/a/b"), make([]byte, 60)...),
		mustPut(t, mark), mustPut(t, api.Attr{}))
	l[0] = mixed(64, 9) // the bitmap is not asked
	mustDecode(t, "all kinds", l, 1, 2, []api.Node{
		{Kind: api.Dir, Impure: 121, Nlink: 3, Gen: 5, Entries: []api.Entry{
			{Slot: 5, Ino: 6, Name: "d"}, {Slot: 6, Ino: 2, Name: "f"}, {Slot: 7, Ino: 4, Name: "l"},
			{Slot: 12, Ino: 5, Name: "w"}, {Slot: 15, Ino: 2, Name: "abcdefghijkl"}}},
		{Kind: api.File, Impure: 255, Nlink: 65535, Gen: 1<<28 - 1, Data: slices.Concat(whole, make([]byte, 64), []byte{7, 7}), Attr: full},
		{},
		{Kind: api.Link, Nlink: 1, Data: []byte("/a/b")},
		{Kind: api.White, Impure: 1, Nlink: 7, Gen: 2, Attr: mark},
		{Kind: api.Dir, Nlink: 2},
	})
}

// P12.3: ClausePtr for each pointer that is not 0 and does not count, ClauseInode for each inode that is none, with the layer.
func TestPtrAndInode(t *testing.T) {
	for _, layer := range append(sample.Far(), -1, 0, 1, 2, 3) {
		l := lay(t, []api.Inode{
			{Kind: api.Dir, Nlink: 2, Ptr: [4]int{1, 1, 9, 65535}, Attr: 1},
			{},
			{Kind: api.White, Attr: 9},
			{Kind: api.File, Nlink: 1, Size: 70, Ptr: [4]int{8, 1, 8}},
		})
		l[2], l[6] = mixed(64, 10), mixed(64, 11)
		copy(l[14], []byte{3, 0, 4})
		mustDecode(t, "layer "+strconv.Itoa(layer), l, 1, layer, []api.Node{
			{Kind: api.Dir, Nlink: 2}, {}, {Kind: api.White},
			{Kind: api.File, Nlink: 1, Data: append([]byte{3, 0, 4}, make([]byte, 67)...)},
		},
			api.Finding{Clause: 1, Layer: layer, Ino: 1, Slot: 1}, api.Finding{Clause: 1, Layer: layer, Ino: 1, Slot: 2},
			api.Finding{Clause: 1, Layer: layer, Ino: 1, Slot: 3}, api.Finding{Clause: 1, Layer: layer, Ino: 1, Slot: 4},
			api.Finding{Clause: 1, Layer: layer, Ino: 3, Slot: 4},
			api.Finding{Clause: 1, Layer: layer, Ino: 4, Slot: 1}, api.Finding{Clause: 1, Layer: layer, Ino: 4, Slot: 2},
			api.Finding{Clause: 4, Layer: layer, Ino: 2, Slot: -1}, api.Finding{Clause: 4, Layer: layer, Ino: 6, Slot: -1})
	}
}

// P12.3: pointers of an inode that is none are not asked: its blocks are free for others.
func TestPointersOfNone(t *testing.T) {
	l := lay(t, []api.Inode{{Kind: api.File, Nlink: 1, Size: 2, Ptr: [4]int{1}}, {Kind: api.File, Nlink: 1, Size: 2, Ptr: [4]int{1}}}, mixed(64, 12))
	mustDecode(t, "both are read", l, 1, 0, []api.Node{
		{Kind: api.File, Nlink: 1, Data: l[7][:2]}, {Kind: api.File, Nlink: 1, Data: []byte{0, 0}},
	}, api.Finding{Clause: 1, Ino: 2})
	l[1][63]++
	mustDecode(t, "the first one is none", l, 1, 0, []api.Node{
		{}, {Kind: api.File, Nlink: 1, Data: l[7][:2]},
	}, api.Finding{Clause: 4, Ino: 1, Slot: -1})
}

// P12.3: attributes: of a pointer 4 that counts and whose block is some; ClauseAttr of one whose block is none.
func TestAttributes(t *testing.T) {
	a := api.Attr{Has: api.HasOrigin | api.HasMeta, Origin: api.Origin{Layer: 2, Ino: 7, Gen: 9}}
	for _, kind := range []int{api.Dir, api.File, api.Link, api.White} {
		x := api.Inode{Kind: kind, Nlink: 1, Attr: 2}
		node := api.Node{Kind: kind, Nlink: 1, Attr: a}
		none := api.Node{Kind: kind, Nlink: 1}
		finding := api.Finding{Clause: 2, Layer: 3, Ino: 2, Slot: -1}
		put := mustPut(t, a)
		mustDecode(t, "attributes", lay(t, []api.Inode{{}, x}, nil, put), 1, 3, []api.Node{{}, node})
		mustDecode(t, "attributes that are all zero", lay(t, []api.Inode{{}, x}, nil, mustPut(t, api.Attr{})), 1, 3, []api.Node{{}, none})
		for _, b := range [][]byte{nil, {}, make([]byte, 64), put[:63], append(bytes.Clone(put), 0), mixed(64, 13)} {
			mustDecode(t, "a block that is none", lay(t, []api.Inode{{}, x}, nil, b), 1, 3, []api.Node{{}, none}, finding)
		}
		for at := range put {
			b := bytes.Clone(put)
			b[at]++
			mustDecode(t, "a byte changed", lay(t, []api.Inode{{}, x}, nil, b), 1, 3, []api.Node{{}, none}, finding)
		}
		mustDecode(t, "a block that one ahead names", lay(t, []api.Inode{x, x}, nil, put), 1, 3, []api.Node{node, none},
			api.Finding{Clause: 1, Layer: 3, Ino: 2, Slot: 4})
		mustDecode(t, "a block that one ahead names, and that is none", lay(t, []api.Inode{x, x}), 1, 3, []api.Node{none, none},
			api.Finding{Clause: 1, Layer: 3, Ino: 2, Slot: 4}, api.Finding{Clause: 2, Layer: 3, Ino: 1, Slot: -1})
		x.Attr = 9
		mustDecode(t, "no block", lay(t, []api.Inode{{}, x}), 1, 3, []api.Node{{}, none}, api.Finding{Clause: 1, Layer: 3, Ino: 2, Slot: 4})
		x.Attr = 0
		mustDecode(t, "pointer 0", lay(t, []api.Inode{{}, x}, put), 1, 3, []api.Node{{}, none})
	}
}

// dirs is a Dir of one block, with these entries, and live inodes 2, 3 and 4; 5 is Free, and 6 is none.
func dirs(t *testing.T, l ...api.Entry) [][]byte {
	s := lay(t, []api.Inode{
		{Kind: api.Dir, Nlink: 2, Ptr: [4]int{1}}, {Kind: api.Dir, Nlink: 2}, {Kind: api.White}, {Kind: api.File},
	}, entry.Block(l, 0))
	s[6] = bytes.Repeat([]byte{1}, 64)
	return s
}

// mustRead wants these entries of inode 1 of dirs, and these of its slots to be found.
func mustRead(t *testing.T, why string, l [][]byte, special int, want []api.Entry, slots ...int) {
	t.Helper()
	findings := []api.Finding{{Clause: 4, Layer: 1, Ino: 6, Slot: -1}}
	for _, slot := range slots {
		findings = append(findings, api.Finding{Clause: 5, Layer: 1, Ino: 1, Slot: slot})
	}
	mustDecode(t, why, l, special, 1, []api.Node{
		{Kind: api.Dir, Nlink: 2, Entries: want}, {Kind: api.Dir, Nlink: 2}, {Kind: api.White}, {Kind: api.File},
	}, findings...)
}

// P12.3: entries of an Ino that is special, or Free, or none, or behind the last one.
func TestEntriesOfInodes(t *testing.T) {
	for ino := 1; ino <= 9; ino++ {
		e := api.Entry{Slot: 2, Ino: ino, Name: "x"}
		for _, special := range []int{math.MinInt, -1, 0, 1, 2, 3, 4, 5, 6, 7, math.MaxInt} {
			if ino > special && ino <= 4 {
				mustRead(t, "live, and above special", dirs(t, e), special, []api.Entry{e})
			} else {
				mustRead(t, "Ino "+strconv.Itoa(ino)+", special "+strconv.Itoa(special), dirs(t, e), special, nil, 2)
			}
		}
	}
	for _, ino := range []int{255, 256, 257, 65535} {
		mustRead(t, "far behind", dirs(t, api.Entry{Slot: 0, Ino: ino, Name: "x"}), 1, nil, 0)
	}
}

// P12.3: the last inode of a layer may be named, and a Dir may name itself.
func TestEntriesOfTheLast(t *testing.T) {
	l := lay(t, []api.Inode{{Kind: api.Dir, Ptr: [4]int{1}}, {}, {}, {}, {}, {Kind: api.Dir, Ptr: [4]int{0, 2}}},
		entry.Block([]api.Entry{{Slot: 0, Ino: 6, Name: "x"}}, 0), entry.Block([]api.Entry{{Slot: 4, Ino: 6, Name: "x"}, {Slot: 7, Ino: 1, Name: "up"}}, 1))
	mustDecode(t, "the last one", l, 0, 0, []api.Node{
		{Kind: api.Dir, Entries: []api.Entry{{Slot: 0, Ino: 6, Name: "x"}}}, {}, {}, {}, {},
		{Kind: api.Dir, Entries: []api.Entry{{Slot: 4, Ino: 6, Name: "x"}, {Slot: 7, Ino: 1, Name: "up"}}},
	})
}

// P12.3: two entries of one Name, of which the first one is good, or not.
func TestEntriesOfOneName(t *testing.T) {
	a, b := api.Entry{Slot: 0, Ino: 3, Name: "x"}, api.Entry{Slot: 2, Ino: 4, Name: "x"}
	mustRead(t, "the first one is good", dirs(t, a, b), 1, []api.Entry{a}, 2)
	mustRead(t, "in the list's other order", dirs(t, b, a), 1, []api.Entry{a}, 2)
	a.Ino = 5
	mustRead(t, "the first one is Free", dirs(t, a, b), 1, []api.Entry{b}, 0)
	a.Ino = 3
	mustRead(t, "the first one is special", dirs(t, a, b), 3, []api.Entry{b}, 0)
	mustRead(t, "both are special", dirs(t, a, b), 4, nil, 0, 2)
	b.Ino = 6
	mustRead(t, "the second one is none", dirs(t, a, b), 1, []api.Entry{a}, 2)
	b.Ino = 3
	mustRead(t, "of one inode", dirs(t, a, b), 1, []api.Entry{a}, 2)
	b.Name = "y"
	mustRead(t, "two names of one inode", dirs(t, a, b), 1, []api.Entry{a, b})
	b.Name = "xx"
	mustRead(t, "a name that begins alike", dirs(t, a, b), 1, []api.Entry{a, b})
	l := []api.Entry{{Slot: 0, Ino: 5, Name: "x"}, {Slot: 1, Ino: 2, Name: "x"}, {Slot: 2, Ino: 3, Name: "x"}, {Slot: 3, Ino: 4, Name: "x"}}
	mustRead(t, "four of one name", dirs(t, l...), 1, l[1:2], 0, 2, 3)
}

// P12.3: entries of one Name in two blocks of a Dir, and in two Dirs.
func TestEntriesOfOneNameApart(t *testing.T) {
	l := lay(t, []api.Inode{
		{Kind: api.Dir, Ptr: [4]int{3, 0, 0, 2}}, {Kind: api.Dir, Ptr: [4]int{1}}, {Kind: api.File},
	},
		entry.Block([]api.Entry{{Slot: 3, Ino: 3, Name: "x"}}, 0),
		entry.Block([]api.Entry{{Slot: 12, Ino: 3, Name: "x"}, {Slot: 13, Ino: 3, Name: "y"}}, 3),
		entry.Block([]api.Entry{{Slot: 1, Ino: 3, Name: "x"}}, 0))
	mustDecode(t, "two blocks, two Dirs", l, 1, 0, []api.Node{
		{Kind: api.Dir, Entries: []api.Entry{{Slot: 1, Ino: 3, Name: "x"}, {Slot: 13, Ino: 3, Name: "y"}}},
		{Kind: api.Dir, Entries: []api.Entry{{Slot: 3, Ino: 3, Name: "x"}}}, {Kind: api.File},
	}, api.Finding{Clause: 5, Ino: 1, Slot: 12})
}

// P12.3: entries that are not to be read, among others, in the order of the slots.
func TestEntriesNotToBeRead(t *testing.T) {
	a, b := api.Entry{Slot: 0, Ino: 3, Name: "x"}, api.Entry{Slot: 2, Ino: 4, Name: "y"}
	for at := 16; at < 32; at++ {
		l := dirs(t, a, b)
		l[7][at] = 1
		mustRead(t, "one byte alone", l, 1, []api.Entry{a, b}, 1)
	}
	l := dirs(t, a, b)
	l[7][2], l[7][63] = 13, 1
	mustRead(t, "a name that is too long, and a last byte", l, 1, []api.Entry{b}, 0, 3)
	b.Ino = 5
	l = dirs(t, a, b)
	l[7][16], l[7][63] = 1, 1
	mustRead(t, "one that is not good between them", l, 1, []api.Entry{a}, 1, 2, 3)
	l = dirs(t)
	l[7] = bytes.Repeat([]byte{255}, 64)
	mustRead(t, "nothing to be read", l, 1, nil, 0, 1, 2, 3)
	for _, n := range []int{0, 16, 63, 65} {
		l[7] = bytes.Repeat([]byte{255}, n)
		mustRead(t, "a sector of another length", l, 1, nil)
	}
}

// P12.3: each pointer of a Dir has slots of its own; blocks that do not count have none.
func TestSlots(t *testing.T) {
	spoiled := bytes.Repeat([]byte{255}, 64)
	for k := range 4 {
		x := api.Inode{Kind: api.Dir, Nlink: 2}
		x.Ptr[k] = 8
		l := lay(t, []api.Inode{{}, x}, nil, nil, nil, nil, nil, nil, nil, spoiled)
		var want []api.Finding
		for i := range 4 {
			want = append(want, api.Finding{Clause: 5, Layer: 2, Ino: 2, Slot: 4*k + i})
		}
		node := api.Node{Kind: api.Dir, Nlink: 2}
		mustDecode(t, "a spoiled block", l, 1, 2, []api.Node{{}, node}, want...)
		l[1], _ = inode.Put(api.Inode{Kind: api.White, Attr: 8})
		mustDecode(t, "one that Attr ahead names", l, 1, 2, []api.Node{{Kind: api.White}, node},
			api.Finding{Clause: 1, Layer: 2, Ino: 2, Slot: k}, api.Finding{Clause: 2, Layer: 2, Ino: 1, Slot: -1})
		for _, kind := range []int{api.File, api.Link} {
			x.Kind, node.Kind = kind, kind
			mustDecode(t, "none of a Dir", lay(t, []api.Inode{x}, spoiled, spoiled, spoiled, spoiled, spoiled, spoiled, spoiled, spoiled), 1, 2, []api.Node{node})
		}
	}
}

// P12.3: findings in the order of Clause, Ino, Slot, where all stand together.
func TestOrder(t *testing.T) {
	spoiled := bytes.Repeat([]byte{255}, 64)
	free := api.Entry{Slot: 4, Ino: 4, Name: "x"}
	l := lay(t, []api.Inode{
		{Kind: api.Dir, Ptr: [4]int{1, 2, 99}, Attr: 3},
		{Kind: api.Dir, Ptr: [4]int{1, 0, 0, 5}, Attr: 99},
		{Kind: api.File, Attr: 4},
		{},
		{Kind: api.Dir, Ptr: [4]int{6}, Attr: 7},
	}, entry.Block([]api.Entry{{Slot: 1, Ino: 1, Name: "x"}, {Slot: 3, Ino: 6, Name: "y"}}, 0), entry.Block([]api.Entry{free}, 1), spoiled, spoiled, spoiled, spoiled, spoiled)
	l[4], l[6] = spoiled, spoiled
	var want []api.Finding
	for _, f := range [][3]int{
		{1, 1, 2}, {1, 2, 0}, {1, 2, 4},
		{2, 1, -1}, {2, 3, -1}, {2, 5, -1},
		{4, 4, -1}, {4, 6, -1},
		{5, 1, 1}, {5, 1, 3}, {5, 1, 4},
		{5, 2, 12}, {5, 2, 13}, {5, 2, 14}, {5, 2, 15},
		{5, 5, 0}, {5, 5, 1}, {5, 5, 2}, {5, 5, 3},
	} {
		want = append(want, api.Finding{Clause: f[0], Layer: 9, Ino: f[1], Slot: f[2]})
	}
	mustDecode(t, "all clauses", l, 1, 9, []api.Node{{Kind: api.Dir}, {Kind: api.Dir}, {Kind: api.File}, {}, {Kind: api.Dir}}, want...)
}

// model is Decode, by the chapter's words: pointers are gone through once, and who named a block is kept.
func model(g api.Geo, l [][]byte, special, layer int) (api.Branch, []api.Finding) {
	inodes := make([]api.Inode, g.Inodes)
	var clauses [6][]api.Finding
	find := func(clause, ino, slot int) {
		clauses[clause] = append(clauses[clause], api.Finding{Clause: clause, Layer: layer, Ino: ino, Slot: slot})
	}
	for i := range inodes {
		x, ok := inode.Get(l[1+i])
		if !ok {
			find(api.ClauseInode, i+1, -1)
		}
		inodes[i] = x
	}
	taken := map[int]bool{}
	nodes := make([]api.Node, g.Inodes)
	for i, x := range inodes {
		n := &nodes[i]
		n.Kind, n.Impure, n.Nlink, n.Gen = x.Kind, x.Impure, x.Nlink, x.Gen
		data := make([]byte, 256)
		for k, p := range append(x.Ptr[:], x.Attr) {
			if p == 0 {
				continue
			}
			if p > g.Blocks || taken[p] {
				find(api.ClausePtr, i+1, k)
				continue
			}
			taken[p] = true
			b := l[g.Inodes+p]
			if k == 4 {
				a, ok := attr.Get(b)
				if !ok {
					find(api.ClauseAttr, i+1, -1)
				}
				n.Attr = a
				continue
			}
			copy(data[64*k:], b)
			if x.Kind != api.Dir {
				continue
			}
			for j := range 4 {
				slot := 4*k + j
				e, there, readable := entry.Get(b[16*j:16*j+16], slot)
				good := there && e.Ino > special && e.Ino <= g.Inodes && inodes[e.Ino-1].Kind != api.Free
				for _, o := range n.Entries {
					good = good && o.Name != e.Name
				}
				if good {
					n.Entries = append(n.Entries, e)
				} else if there || !readable {
					find(api.ClauseEntry, i+1, slot)
				}
			}
		}
		if x.Kind == api.File || x.Kind == api.Link {
			n.Data = data[:x.Size]
		}
	}
	return api.Branch{Nodes: nodes}, slices.Concat(clauses[:]...)
}

// someInode is an inode of any kind, with pointers around the blocks.
func someInode(r *rand.Rand, g api.Geo) api.Inode {
	x := api.Inode{Kind: r.Intn(5), Impure: r.Intn(256), Nlink: r.Intn(65536), Gen: r.Intn(1 << 28)}
	if x.Kind == api.Free {
		return api.Inode{}
	}
	if x.Kind == api.File || x.Kind == api.Link {
		x.Size = r.Intn(257)
	}
	pointer := func() int {
		return r.Intn(3) / 2 * r.Intn(g.Blocks+2)
	}
	if x.Kind != api.White {
		x.Ptr = [4]int{pointer(), pointer(), pointer(), pointer()}
	}
	x.Attr = pointer()
	return x
}

func someAttr(r *rand.Rand) api.Attr {
	a := api.Attr{Has: 31, Opaque: r.Intn(256), Redirect: "/abcdefghijkl/nopqrstuvw"[:1+r.Intn(24)], Origin: api.Origin{Layer: r.Intn(4), Ino: r.Intn(30), Gen: r.Intn(1 << 28)}, Shown: r.Intn(9)}
	return attr.Drop(a, r.Intn(32))
}

// someBlock is a block of any kind: of entries of block k, most of which may be read, attributes, bytes, or bytes 0.
func someBlock(r *rand.Rand, g api.Geo) []byte {
	switch r.Intn(8) {
	case 0:
		return mixed(64, r.Int())
	case 1:
		return make([]byte, 64)
	case 2, 3:
		b, _ := attr.Put(someAttr(r))
		return b
	}
	var l []api.Entry
	for slot := range 4 {
		l = append(l, api.Entry{Slot: slot, Ino: r.Intn(g.Inodes + 2), Name: string('a' + rune(r.Intn(6)))})
	}
	b := entry.Block(l, 0)
	if r.Intn(4) == 0 {
		b[r.Intn(64)]++
	}
	return b
}

func someLayer(r *rand.Rand, g api.Geo) [][]byte {
	l := [][]byte{mixed(64, r.Int())}
	for range g.Inodes {
		b, _ := inode.Put(someInode(r, g))
		if r.Intn(10) == 0 {
			b[r.Intn(64)]++
		}
		l = append(l, b)
	}
	for range g.Blocks {
		l = append(l, someBlock(r, g))
	}
	return l
}

// P12.2, P12.3: many layers, held against the model; Data and Inodes say what Decode says.
func TestManyLayers(t *testing.T) {
	r := rand.New(rand.NewSource(3))
	for range 3000 {
		g := api.Geo{Lowers: 1 + r.Intn(3), Inodes: 4 + r.Intn(21), Blocks: 1 + r.Intn(60), Log: 1 + r.Intn(64)}
		l := someLayer(r, g)
		special, layer := r.Intn(5), r.Intn(4)
		want, findings := model(g, l, special, layer)
		b, f := branch.Decode(g, l, special, layer)
		if !alike(b, want) || !slices.Equal(f, findings) {
			t.Fatalf("%v, special %d: %v, %v, not %v, %v", g, special, b, f, want, findings)
		}
		inodes, none := branch.Inodes(g, l)
		var found []int
		for _, x := range f {
			if x.Clause == api.ClauseInode {
				found = append(found, x.Ino)
			}
		}
		if !slices.Equal(none, found) {
			t.Errorf("%v: inodes that are none: %v, found: %v", g, none, found)
		}
		for i, n := range b.Nodes {
			if d := branch.Data(l, g, inodes, i+1); !bytes.Equal(d, n.Data) || n.Kind != inodes[i].Kind {
				t.Errorf("%v: inode %d: %v, %v", g, i+1, d, n)
			}
		}
	}
}

// retell is the sectors of inodes and blocks as the nodes tell them, by the inodes' pointers.
func retell(t *testing.T, g api.Geo, inodes []api.Inode, b api.Branch) [][]byte {
	t.Helper()
	l := blank(g)
	for i, n := range b.Nodes {
		x := inodes[i]
		y, e := inode.Put(api.Inode{Kind: n.Kind, Impure: n.Impure, Nlink: n.Nlink, Gen: n.Gen, Size: len(n.Data), Ptr: x.Ptr, Attr: x.Attr})
		if e != api.OK {
			t.Fatal(e)
		}
		l[1+i] = y
		for k, p := range x.Ptr {
			if p == 0 {
				continue
			}
			l[g.Inodes+p] = entry.Block(n.Entries, k)
			if n.Kind != api.Dir {
				copy(l[g.Inodes+p], n.Data[min(64*k, len(n.Data)):])
			}
		}
		if x.Attr != 0 {
			l[g.Inodes+x.Attr] = mustPut(t, n.Attr)
		}
	}
	return l
}

// wholeLayer is a layer without findings; the bytes of Files behind their Size are 0.
func wholeLayer(t *testing.T, r *rand.Rand, g api.Geo) [][]byte {
	t.Helper()
	l := blank(g)
	free := r.Perm(g.Blocks)
	var live []int
	kinds := make([]int, g.Inodes)
	for i := range kinds {
		if kinds[i] = r.Intn(5); kinds[i] != api.Free && i > 0 {
			live = append(live, i+1)
		}
	}
	for i, kind := range kinds {
		if kind == api.Free {
			continue
		}
		x := api.Inode{Kind: kind, Impure: r.Intn(256), Nlink: r.Intn(65536), Gen: r.Intn(1 << 28)}
		if kind == api.File || kind == api.Link {
			x.Size = r.Intn(257)
		}
		for k := range 5 {
			if len(free) == 0 || r.Intn(2) == 0 || k < 4 && kind == api.White {
				continue
			}
			block := make([]byte, 64)
			switch {
			case k == 4:
				x.Attr, block = free[0]+1, mustPut(t, someAttr(r))
			case kind == api.Dir && len(live) > 0:
				e := []api.Entry{{Slot: 4*k + 1, Ino: live[r.Intn(len(live))], Name: "a" + strconv.Itoa(k)}, {Slot: 4*k + 3, Ino: live[r.Intn(len(live))], Name: "b" + strconv.Itoa(k)}}
				x.Ptr[k], block = free[0]+1, entry.Block(e, k)
			case kind != api.Dir && 64*k < x.Size:
				x.Ptr[k] = free[0] + 1
				copy(block, mixed(min(64, x.Size-64*k), r.Int()))
			}
			l[1+g.Inodes+free[0]] = block
			free = free[1:]
		}
		b, e := inode.Put(x)
		if e != api.OK {
			t.Fatal(e)
		}
		l[1+i] = b
	}
	return l
}

// P12.4: of layers without findings all that is not 0 in the inodes, and in the blocks that count, can be told again out of the nodes.
func TestAllIsTold(t *testing.T) {
	r := rand.New(rand.NewSource(4))
	for range 1000 {
		g := api.Geo{Lowers: 1, Inodes: 4 + r.Intn(21), Blocks: 1 + r.Intn(60), Log: 1}
		l := wholeLayer(t, r, g)
		b, f := branch.Decode(g, l, 1, 1)
		if len(f) != 0 {
			t.Fatalf("findings of a whole layer: %v", f)
		}
		inodes, _ := branch.Inodes(g, l)
		told := retell(t, g, inodes, b)
		for i := 1; i < len(l); i++ {
			if !bytes.Equal(told[i], l[i]) {
				t.Fatalf("%v: sector %d is %v, and is told as %v", g, i, l[i], told[i])
			}
		}
	}
}

// P12.4: a byte that changes in an inode, or in a block that counts, changes what is told, or is found; File's bytes behind Size are of no node.
func TestNoByteIsLost(t *testing.T) {
	g := small
	dir := api.Inode{Kind: api.Dir, Nlink: 2, Ptr: [4]int{1, 0, 2}, Attr: 3}
	l := lay(t, []api.Inode{dir, {Kind: api.File, Nlink: 1, Size: 256, Ptr: [4]int{4, 5, 6, 7}}, {Kind: api.White, Attr: 8}},
		entry.Block([]api.Entry{{Slot: 1, Ino: 2, Name: "f"}}, 0), entry.Block([]api.Entry{{Slot: 8, Ino: 3, Name: "w"}}, 2),
		mustPut(t, api.Attr{Has: api.HasOpaque, Opaque: 1}), mixed(64, 14), mixed(64, 15), mixed(64, 16), mixed(64, 17), mustPut(t, api.Attr{}))
	first, f := branch.Decode(g, l, 1, 0)
	if len(f) != 0 {
		t.Fatal(f)
	}
	for i := 1; i < len(l); i++ {
		for at := range 64 {
			for _, x := range []byte{1, 2, 128, 255} {
				l[i][at] ^= x
				if b, f := branch.Decode(g, l, 1, 0); len(f) == 0 && alike(b, first) {
					t.Errorf("sector %d, byte %d: nothing is told of it", i, at)
				}
				l[i][at] ^= x
			}
		}
	}
}

// The answers share no memory with what was handed in, nor with each other, and what was handed in stays as it is.
func TestCutSharesNothing(t *testing.T) {
	b := mixed(64*49, 18)
	before := bytes.Clone(b)
	l, again := branch.Cut(small, b, 1), branch.Cut(small, b, 1)
	for i, s := range l {
		for j := range s[:cap(s)] {
			s[:cap(s)][j] ^= 255
		}
		for j := i + 1; j < len(l); j++ {
			if !bytes.Equal(l[j], again[j]) {
				t.Errorf("sectors %d and %d share", i, j)
			}
		}
	}
	if !bytes.Equal(b, before) {
		t.Error("the image is changed")
	}
	clear(b)
	if !bytes.Equal(again[0], before[64:128]) {
		t.Error("sectors change with the image")
	}
}

func TestDecodeSharesNothing(t *testing.T) {
	r := rand.New(rand.NewSource(5))
	for range 50 {
		l := someLayer(r, small)
		var before [][]byte
		for _, s := range l {
			before = append(before, bytes.Clone(s))
		}
		kept, findings := branch.Decode(small, l, 1, 0)
		spoiled, f := branch.Decode(small, l, 1, 0)
		clear(f[:cap(f)])
		for i, n := range spoiled.Nodes {
			for j := range n.Data[:cap(n.Data)] {
				n.Data[:cap(n.Data)][j] ^= 255
			}
			clear(n.Entries[:cap(n.Entries)])
			for j := i + 1; j < len(spoiled.Nodes); j++ {
				if !bytes.Equal(spoiled.Nodes[j].Data, kept.Nodes[j].Data) || !slices.Equal(spoiled.Nodes[j].Entries, kept.Nodes[j].Entries) {
					t.Errorf("nodes %d and %d share", i+1, j+1)
				}
			}
		}
		if !reflect.DeepEqual(l, before) {
			t.Error("the sectors are changed")
		}
		want, wanted := model(small, l, 1, 0)
		for _, s := range l {
			clear(s)
		}
		if !alike(kept, want) || !slices.Equal(findings, wanted) {
			t.Error("the nodes change with the sectors, or with another answer")
		}
	}
}

func TestDataAndInodesShareNothing(t *testing.T) {
	l, whole := fourBlocks(t)
	inodes := []api.Inode{{Kind: api.File, Size: 100, Ptr: [4]int{1, 2}}}
	kept, spoiled := branch.Data(l, small, inodes, 1), branch.Data(l, small, inodes, 1)
	clear(spoiled[:cap(spoiled)])
	mustData(t, "again", l, inodes, 1, whole[:100])
	want := bytes.Clone(whole[:100])
	clear(whole)
	if !bytes.Equal(kept, want) {
		t.Error("Data changes with the blocks, or with another answer")
	}
	l = rightLayer(t)
	l[2] = nil
	x, none := branch.Inodes(small, l)
	y, again := branch.Inodes(small, l)
	clear(y[:cap(y)])
	clear(again[:cap(again)])
	if x[0].Kind != api.Dir || !slices.Equal(none, []int{2}) {
		t.Errorf("two answers of Inodes share: %v, %v", x, none)
	}
}
