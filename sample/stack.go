package sample

import (
	"slices"

	"craquelure/api"
	"craquelure/attr"
	"craquelure/handle"
	"craquelure/impure"
	"craquelure/index"
	"craquelure/links"
	"craquelure/origin"
	"craquelure/redirect"
	"craquelure/tally"
	"craquelure/walk"
	"craquelure/white"
)

const (
	names    = "abcde" // few, so that the layers have many in common
	slots    = 8
	mostData = 100
)

// Stack answers a stack with which nothing is wrong: layers of some nodes, copies, redirects and whiteouts among them; pick draws a number below that which it is given. A layer takes three blocks an inode at most.
func Stack(g api.Geo, pick func(int) int) api.Stack {
	s := api.Stack{Geo: g, Upper: grown(g.Inodes, api.Index, pick)}
	for range g.Lowers {
		s.Lowers = append(s.Lowers, grown(g.Inodes, api.Root, pick))
	}
	for ino := api.Index + 1; ino <= g.Inodes; ino++ {
		dress(s, ino, pick)
	}
	settle(s)
	return s
}

// grown is a layer whose nodes stand in directories ahead of them, some by two names.
func grown(many, special int, pick func(int) int) api.Branch {
	b := api.Branch{Nodes: make([]api.Node, many)}
	for i := range special {
		b.Nodes[i].Kind = api.Dir
	}
	dirs := []int{api.Root}
	for ino := special + 1; ino <= many; ino++ {
		kind := 1 + pick(api.White)
		if pick(8) == 0 || !enter(b, dirs[pick(len(dirs))], ino, some(pick), pick) {
			continue
		}
		b.Nodes[ino-1] = api.Node{Kind: kind, Gen: pick(3)}
		switch kind {
		case api.Dir:
			dirs = append(dirs, ino)
			continue
		case api.File, api.Link:
			b.Nodes[ino-1].Data = data(pick)
		}
		if pick(3) == 0 {
			enter(b, dirs[pick(len(dirs))], ino, some(pick), pick)
		}
	}
	return b
}

func some(pick func(int) int) string {
	i := pick(len(names))
	return names[i : i+1]
}

func data(pick func(int) int) []byte {
	b := make([]byte, pick(mostData))
	for i := range b {
		b[i] = byte(pick(256))
	}
	return b
}

// enter gives a directory an entry in some slot, if neither that nor the name is taken.
func enter(b api.Branch, dir, ino int, name string, pick func(int) int) bool {
	e := api.Entry{Slot: pick(slots), Ino: ino, Name: name}
	n := &b.Nodes[dir-1]
	if slices.ContainsFunc(n.Entries, func(x api.Entry) bool { return x.Slot == e.Slot || x.Name == e.Name }) {
		return false
	}
	n.Entries = append(n.Entries, e)
	slices.SortFunc(n.Entries, func(x, y api.Entry) int { return x.Slot - y.Slot })
	return true
}

// dress gives an upper node attributes as nodes of its kind may have, and the index an entry of it.
func dress(s api.Stack, ino int, pick func(int) int) {
	n := &s.Upper.Nodes[ino-1]
	switch n.Kind {
	case api.Dir:
		if pick(5) == 0 {
			n.Attr.Has, n.Attr.Opaque = api.HasOpaque, api.Mark
		}
		if pick(2) == 0 {
			n.Attr.Has, n.Attr.Redirect = n.Attr.Has|api.HasRedirect, target(pick)
		}
		if pick(4) == 0 {
			copyOf(s, ino, pick)
		}
	case api.File, api.Link:
		if pick(3) == 0 || !copyOf(s, ino, pick) {
			return
		}
		if n.Kind == api.File && pick(2) == 0 {
			n.Attr.Has |= api.HasMeta
		}
		if pick(2) == 0 {
			list(s, ino, n.Attr.Origin, pick)
		}
	case api.White:
		if o, ok := lowerOf(s, api.File, pick); ok && pick(4) == 0 {
			list(s, ino, o, pick)
		}
	}
}

func target(pick func(int) int) string {
	switch pick(3) {
	case 0:
		return some(pick)
	case 1:
		return "/" + some(pick)
	}
	return "/" + some(pick) + "/" + some(pick)
}

// copyOf gives an upper node the origin of some lower one, if there is one of its kind.
func copyOf(s api.Stack, ino int, pick func(int) int) bool {
	n := &s.Upper.Nodes[ino-1]
	o, ok := lowerOf(s, n.Kind, pick)
	if ok {
		n.Attr.Has, n.Attr.Origin = n.Attr.Has|api.HasOrigin, o
	}
	return ok
}

// lowerOf is a handle of some lower node of that kind, if there is one.
func lowerOf(s api.Stack, kind int, pick func(int) int) (api.Origin, bool) {
	layer := pick(len(s.Lowers))
	l := s.Lowers[layer].Nodes
	first := pick(len(l))
	for i := range l {
		at := (first + i) % len(l)
		if l[at].Kind == kind {
			return api.Origin{Layer: layer + 1, Ino: at + 1, Gen: l[at].Gen}, true
		}
	}
	return api.Origin{}, false
}

func list(s api.Stack, ino int, o api.Origin, pick func(int) int) {
	name, _ := handle.Name(o)
	enter(s.Upper, api.Index, ino, name, pick)
}

// settle takes away what is wrong with the upper layer, till nothing is.
func settle(s api.Stack) {
	for {
		prune(s.Upper)
		l := slices.Concat(white.Findings(s), redirect.Findings(s), origin.Findings(s), index.Findings(s), impure.Findings(s), tally.Findings(s), links.Findings(s))
		if len(l) == 0 {
			return
		}
		for _, f := range l {
			if f.Clause == l[0].Clause {
				mend(s, f)
			}
		}
	}
}

// prune frees what is named by nothing.
func prune(b api.Branch) {
	for i, reached := range walk.Reach(b, api.Root, api.Index, api.Work) {
		if !reached {
			b.Nodes[i] = api.Node{}
		}
	}
}

func mend(s api.Stack, f api.Finding) {
	n := &s.Upper.Nodes[f.Ino-1]
	switch f.Clause {
	case api.ClauseWhite, api.ClauseIndex, api.ClauseWork:
		n.Entries = slices.DeleteFunc(n.Entries, func(e api.Entry) bool { return e.Slot == f.Slot })
	case api.ClauseForm, api.ClauseLoop, api.ClauseGone, api.ClauseSame:
		n.Attr = attr.Drop(n.Attr, api.HasRedirect)
	case api.ClauseOpaque:
		n.Attr = attr.Drop(n.Attr, api.HasOpaque)
	case api.ClauseOrigin:
		n.Attr = attr.Drop(n.Attr, api.HasOrigin)
	case api.ClauseMeta:
		n.Attr = attr.Drop(n.Attr, api.HasMeta)
	case api.ClauseImpure:
		n.Impure = impure.Want(s, f.Ino)
	case api.ClauseLinks:
		n.Nlink = tally.Names(s.Upper, f.Ino)
	case api.ClauseShown:
		n.Attr = attr.Drop(n.Attr, api.HasShown)
		if want, should := links.Want(s, f.Ino); should {
			n.Attr.Has, n.Attr.Shown = n.Attr.Has|api.HasShown, want
		}
	}
}
