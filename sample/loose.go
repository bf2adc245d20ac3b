package sample

import (
	"craquelure/api"
	"craquelure/attr"
	"craquelure/entry"
	"craquelure/geo"
	"craquelure/handle"
	"craquelure/inode"
)

const mostNamed = 14 // blocks of which Loose makes something: few, so that many pointers name one

// Loose answers an image whose upper inodes and blocks were laid with no regard to each other; pick draws a number below that which it is given.
func Loose(pick func(int) int) []byte {
	g := api.Geo{Lowers: 1 + pick(3), Inodes: 4 + pick(8), Blocks: api.MaxBlocks, Log: 1 + pick(5)}
	b := Image(Stack(g, pick))
	for i := range g.Inodes {
		b = Lay(b, geo.Inode(g, 0, i+1), looseInode(i+1, g, pick))
	}
	for block := range mostNamed {
		b = Lay(b, geo.Block(g, 0, block), looseBlock(g, pick))
	}
	return b
}

func looseInode(ino int, g api.Geo, pick func(int) int) []byte {
	x := api.Inode{Kind: 1 + pick(api.White), Impure: []int{0, 1, api.Mark}[pick(3)], Nlink: pick(5), Gen: pick(3)}
	switch {
	case pick(9) == 0:
		return Garbage()
	case pick(6) == 0:
		return make([]byte, api.Sector)
	case ino <= api.Index && pick(8) > 0:
		x.Kind = api.Dir
	}
	if x.Kind == api.File || x.Kind == api.Link {
		x.Size = pick(api.MaxData + 1)
	}
	for k := range x.Ptr {
		if x.Kind != api.White && pick(2) == 0 {
			x.Ptr[k] = loosePointer(g, pick)
		}
	}
	if pick(2) == 0 {
		x.Attr = loosePointer(g, pick)
	}
	b, _ := inode.Put(x)
	return b
}

func loosePointer(g api.Geo, pick func(int) int) int {
	if pick(12) == 0 {
		return g.Blocks + 1 + pick(2)
	}
	return 1 + pick(mostNamed)
}

func looseBlock(g api.Geo, pick func(int) int) []byte {
	switch pick(8) {
	case 0:
		return Garbage()
	case 1, 2, 3:
		return looseAttr(g, pick)
	}
	var l []api.Entry
	for slot := range api.PerBlock {
		if pick(3) > 0 {
			l = append(l, At(slot, looseName(g, pick), 1+pick(g.Inodes+1)))
		}
	}
	b := entry.Block(l, 0)
	if pick(4) == 0 {
		b[pick(api.Sector)] ^= 1
	}
	return b
}

func looseAttr(g api.Geo, pick func(int) int) []byte {
	a := api.Attr{Has: pick(32), Opaque: api.Mark - pick(2), Redirect: target(pick), Origin: looseOrigin(g, pick), Shown: pick(3)}
	b, _ := attr.Put(attr.Drop(a, ^a.Has))
	return b
}

func looseName(g api.Geo, pick func(int) int) string {
	if pick(4) == 0 {
		name, _ := handle.Name(looseOrigin(g, pick))
		return name
	}
	return some(pick)
}

func looseOrigin(g api.Geo, pick func(int) int) api.Origin {
	return api.Origin{Layer: 1 + pick(g.Lowers), Ino: 1 + pick(g.Inodes), Gen: pick(3)}
}
