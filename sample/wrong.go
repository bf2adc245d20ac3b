package sample

import (
	"slices"

	"craquelure/api"
	"craquelure/geo"
	"craquelure/journal"
)

// Wrong answers an image with which this and that is wrong, or nothing; pick draws a number below that which it is given.
func Wrong(pick func(int) int) []byte {
	g := api.Geo{Lowers: 1 + pick(3), Inodes: 6 + pick(8), Blocks: api.MaxBlocks, Log: 1 + pick(9)}
	s := Stack(g, pick)
	if pick(4) == 0 {
		crowd(s, pick)
	}
	for range pick(6) {
		alter(&s.Upper.Nodes[pick(g.Inodes)], g.Inodes, pick)
	}
	if pick(6) == 0 {
		alter(&s.Lowers[0].Nodes[pick(g.Inodes)], g.Inodes, pick)
	}
	b := Image(s)
	garble(g, b, pick)
	if room := journal.Cap(g); room > 0 && pick(4) == 0 {
		b = Logged(b, slices.Repeat([]int{geo.Bitmap(g, 0) + pick(9)}, 1+pick(room))...)
	}
	return b
}

// garble changes bits, and sectors, of the layers.
func garble(g api.Geo, b []byte, pick func(int) int) {
	upper, end := api.Sector*geo.Bitmap(g, 0), api.Sector*geo.Log(g)
	for range pick(3) {
		b[upper+pick(end-upper)] ^= 1 << pick(8)
	}
	if pick(3) == 0 {
		copy(b[upper+api.Sector*pick(20):end], b[upper+api.Sector*pick(20):][:api.Sector])
	}
	if pick(8) == 0 {
		b[api.Sector+pick(end-api.Sector)] ^= 1
	}
}

// crowd gives some directories one redirect, to a lower directory if there is one.
func crowd(s api.Stack, pick func(int) int) {
	to := "/a"
	low := s.Lowers[0].Nodes
	for _, e := range low[api.Root-1].Entries {
		if low[e.Ino-1].Kind == api.Dir {
			to = "/" + e.Name
		}
	}
	for i, n := range s.Upper.Nodes {
		if i >= api.Index && n.Kind == api.Dir && pick(3) > 0 {
			s.Upper.Nodes[i].Attr = api.Attr{Has: api.HasRedirect, Redirect: to}
		}
	}
}

// alter makes a node that is not free another one, in some part.
func alter(n *api.Node, inodes int, pick func(int) int) {
	if n.Kind == api.Free {
		return
	}
	name := some(pick)
	switch pick(9) {
	case 0:
		n.Nlink = pick(5)
	case 1:
		n.Impure = pick(2) * api.Mark
	case 2:
		n.Attr.Has |= api.HasMeta
	case 3:
		n.Attr = api.Attr{Has: api.HasOpaque | api.HasShown, Opaque: api.Mark - 1 + pick(3), Shown: pick(3)}
	case 4:
		n.Attr = api.Attr{Has: api.HasRedirect, Redirect: []string{name, "/" + name + "/a", "//"}[pick(3)]}
	case 5:
		n.Attr = api.Attr{Has: api.HasOrigin, Origin: api.Origin{Layer: pick(4), Ino: pick(9), Gen: pick(3)}}
	case 6:
		if n.Kind == api.Dir {
			n.Entries = append(n.Entries, At(slots+pick(api.Slots-slots), name, 1+pick(inodes+2)))
		}
	case 7:
		if n.Kind == api.File {
			*n = api.Node{Kind: api.White, Nlink: n.Nlink}
		}
	default:
		n.Attr = api.Attr{Has: api.HasRedirect, Redirect: "/" + name}
	}
}
