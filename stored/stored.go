// Package stored reads the upper layer of an image as its sectors have it, for those that weigh and repair these.
package stored

import (
	"bytes"
	"slices"

	"craquelure/api"
	"craquelure/branch"
	"craquelure/claim"
	"craquelure/geo"
)

const (
	upper      = 0 // number of the upper layer
	firstInode = 1 // among a layer's sectors: the bitmap is ahead
)

// Attr is the number of the pointer to a block of attributes, behind those of Ptr.
const Attr = api.Pointers

// Layer is the upper layer of an image: its inodes, of which those that are none stand as zero ones, and the numbers of these.
type Layer struct {
	Inodes []api.Inode
	None   []int

	layout  api.Geo
	sectors [][]byte
}

// Upper answers the upper layer of the image b.
func Upper(b []byte) (Layer, api.Errno) {
	g, e := geo.Get(b)
	if e != api.OK {
		return Layer{}, e
	}
	sectors := branch.Cut(g, b, upper)
	inodes, none := branch.Inodes(g, sectors)
	return Layer{inodes, none, g, sectors}, api.OK
}

// Inode answers an inode, if it could be read.
func (l Layer) Inode(ino int) (api.Inode, bool) {
	if ino < 1 || ino > len(l.Inodes) || slices.Contains(l.None, ino) {
		return api.Inode{}, false
	}
	return l.Inodes[ino-1], true
}

// Block answers the block that pointer k of an inode names, and its bytes, if the pointer counts.
func (l Layer) Block(ino, k int) (int, []byte, bool) {
	if !claim.Valid(l.Inodes, l.layout.Blocks, ino, k) {
		return 0, nil, false
	}
	block := Pointer(l.Inodes[ino-1], k) - 1
	return block, bytes.Clone(l.sectors[firstInode+l.layout.Inodes+block]), true
}

// Pointer answers what pointer k of an inode is; 0, if there is none of that number.
func Pointer(x api.Inode, k int) int {
	switch {
	case k == Attr:
		return x.Attr
	case k < 0 || k > Attr:
		return 0
	}
	return x.Ptr[k]
}
