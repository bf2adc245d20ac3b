package stored_test

import (
	"bytes"
	"math/rand"
	"slices"
	"testing"

	"craquelure/api"
	"craquelure/geo"
	"craquelure/inode"
	"craquelure/sample"
	"craquelure/store"
	"craquelure/stored"
)

// pointers is all pointers of an inode, by its number.
func pointers(x api.Inode) []int {
	return append(slices.Clone(x.Ptr[:]), x.Attr)
}

// The inodes of many upper layers, those that are none, and the blocks that count.
func TestUpper(t *testing.T) {
	r := rand.New(rand.NewSource(1))
	for range 200 {
		b := sample.Loose(r.Intn)
		g, _ := geo.Get(b)
		before := bytes.Clone(b)
		l, e := stored.Upper(b)
		if e != api.OK || len(l.Inodes) != g.Inodes {
			t.Fatal(l, e)
		}
		used := make([]bool, g.Blocks)
		for ino := 1; ino <= g.Inodes; ino++ {
			at := 64 * geo.Inode(g, 0, ino)
			want, readable := inode.Get(b[at : at+64])
			x, ok := l.Inode(ino)
			if ok != readable || x != want || l.Inodes[ino-1] != want || slices.Contains(l.None, ino) == readable {
				t.Fatalf("inode %d: %v, %v", ino, x, ok)
			}
			for k, n := range pointers(want) {
				counts := n >= 1 && n <= g.Blocks && !used[n-1]
				block, c, ok := l.Block(ino, k)
				if ok != counts || !ok && (block != 0 || c != nil) {
					t.Fatalf("pointer %d of %d: %d, %v", k, ino, block, ok)
				}
				if !counts {
					continue
				}
				used[n-1] = true
				if at := 64 * geo.Block(g, 0, n-1); block != n-1 || !bytes.Equal(c, b[at:at+64]) {
					t.Fatalf("pointer %d of %d: %d, %v", k, ino, block, c)
				}
				clear(c)
				if _, again, _ := l.Block(ino, k); !bytes.Equal(b, before) || !bytes.Equal(again, b[64*geo.Block(g, 0, n-1):][:64]) {
					t.Fatal("the bytes are shared")
				}
			}
		}
		if !slices.Equal(used, store.Used(b, 0)) {
			t.Fatal(used)
		}
	}
}

// What is not there.
func TestNothing(t *testing.T) {
	b := sample.Image(sample.Full())
	for _, c := range [][]byte{nil, {}, b[:64], b[64:], b[:len(b)-1], make([]byte, len(b))} {
		l, e := stored.Upper(c)
		if _, ok := l.Inode(1); e != api.ErrForm || ok || len(l.Inodes) != 0 {
			t.Error(l, e)
		}
		if _, _, ok := l.Block(1, 0); ok {
			t.Error("a block of no image")
		}
	}
	l, _ := stored.Upper(b)
	for _, n := range append(sample.Far(), -1, 0, sample.UpLast+1) {
		if x, ok := l.Inode(n); ok || x != (api.Inode{}) {
			t.Errorf("inode %d: %v", n, x)
		}
		if _, _, ok := l.Block(n, 0); ok {
			t.Errorf("a block of %d", n)
		}
	}
	for _, k := range append(sample.Far(), -1, stored.Attr+1) {
		if _, _, ok := l.Block(1, k); ok {
			t.Errorf("a block of pointer %d", k)
		}
	}
}

// Each of the five pointers, and 0 of those that there are not.
func TestPointer(t *testing.T) {
	x := api.Inode{Ptr: [4]int{5, 6, 7, 8}, Attr: 9}
	for k, want := range pointers(x) {
		if got := stored.Pointer(x, k); got != want {
			t.Errorf("pointer %d: %d", k, got)
		}
	}
	for _, k := range append(sample.Far(), -1, stored.Attr+1) {
		if got := stored.Pointer(x, k); got != 0 {
			t.Errorf("pointer %d: %d", k, got)
		}
	}
}
