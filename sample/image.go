package sample

import (
	"bytes"

	"craquelure/api"
	"craquelure/attr"
	"craquelure/bitmap"
	"craquelure/entry"
	"craquelure/geo"
	"craquelure/inode"
)

// layer is a layer of an image that is laid node by node; its blocks are taken from the first one on.
type layer struct {
	api.Geo
	image []byte
	layer int
	taken int
	full  bool // something was to be laid that can't be
}

// Image answers an image of the stack s, as its layout says; nothing, if it can't be laid.
func Image(s api.Stack) []byte {
	b, e := geo.Put(s.Geo)
	if e != api.OK || len(s.Lowers) != s.Geo.Lowers {
		return nil
	}
	b = append(b, make([]byte, api.Sector*(geo.Total(s.Geo)-1))...)
	for i, branch := range append([]api.Branch{s.Upper}, s.Lowers...) {
		l := &layer{Geo: s.Geo, image: b, layer: i}
		for j, n := range branch.Nodes {
			l.node(j+1, n)
		}
		l.lay(geo.Bitmap(s.Geo, i), bitmap.Put(trues(l.taken)))
		if l.full {
			return nil
		}
	}
	return b
}

// Lay answers the image b, in which sector at is this one.
func Lay(b []byte, at int, sector []byte) []byte {
	changed := bytes.Clone(b)
	copy(changed[at*api.Sector:(at+1)*api.Sector], sector)
	return changed
}

func trues(many int) []bool {
	l := make([]bool, many)
	for i := range l {
		l[i] = true
	}
	return l
}

func (l *layer) lay(at int, b []byte) {
	if at < 0 || len(b) != api.Sector {
		l.full = true
		return
	}
	copy(l.image[at*api.Sector:], b)
}

// block lays the next block, and answers the pointer that names it.
func (l *layer) block(b []byte) int {
	l.lay(geo.Block(l.Geo, l.layer, l.taken), b)
	l.taken++
	return l.taken
}

func (l *layer) node(ino int, n api.Node) {
	x := api.Inode{Kind: n.Kind, Impure: n.Impure, Nlink: n.Nlink, Gen: n.Gen, Size: len(n.Data)}
	for k := range x.Ptr {
		if part, has := piece(n, k); has {
			x.Ptr[k] = l.block(part)
		}
	}
	if n.Attr != (api.Attr{}) {
		b, _ := attr.Put(n.Attr)
		x.Attr = l.block(b)
	}
	b, _ := inode.Put(x)
	l.lay(geo.Inode(l.Geo, l.layer, ino), b)
}

// piece is what pointer k of a node names, if it has anything there.
func piece(n api.Node, k int) ([]byte, bool) {
	if len(n.Data) > k*api.Sector {
		b := make([]byte, api.Sector)
		copy(b, n.Data[k*api.Sector:])
		return b, true
	}
	for _, e := range n.Entries {
		if e.Slot/api.PerBlock == k {
			return entry.Block(n.Entries, k), true
		}
	}
	return nil, false
}
