package sample

import (
	"bytes"

	"craquelure/api"
	"craquelure/bitmap"
	"craquelure/geo"
	"craquelure/handle"
	"craquelure/inode"
	"craquelure/journal"
	"craquelure/store"
)

// Inodes of the upper layer of Full; UpFree and UpLast are free.
const (
	UpDir   = 4
	UpFile  = 5
	UpWhite = 6
	UpAway  = 7
	UpLink  = 8
	UpInner = 9
	UpFree  = 11
	UpLast  = 12
)

// Inodes of its lower layers.
const (
	LowDir  = 2
	LowFile = 3
	LowHid  = 4
	LowSub  = 5
	LowAway = 6
)

const noSlot = -1

// Harm is what makes something wrong with Full, or with its image, and what is found then.
type Harm struct {
	Why   string
	Stack func(up []api.Node)
	Image func(b []byte) []byte
	Want  []api.Finding
}

// FullGeo answers the layout of Full.
func FullGeo() api.Geo {
	return api.Geo{Lowers: 2, Inodes: UpLast, Blocks: 30, Log: 5}
}

// Full answers a stack with which nothing is wrong, and that has something of all kinds.
func Full() api.Stack {
	copied := api.Origin{Layer: 1, Ino: LowFile}
	name, _ := handle.Name(copied)
	up := make([]api.Node, UpLast)
	up[api.Root-1] = Node(api.Dir, 4, At(0, "a", UpDir), At(1, "f", UpFile), At(2, "w", UpWhite), At(3, "r", UpAway), At(4, "b", UpWhite), At(6, "l", UpLink))
	up[api.Root-1].Impure = api.Mark
	up[api.Work-1] = Node(api.Dir, 2)
	up[api.Index-1] = Node(api.Dir, 2, At(0, name, UpFile))
	up[UpDir-1] = Node(api.Dir, 2)
	up[UpFile-1] = Node(api.File, 2)
	up[UpFile-1].Attr = api.Attr{Has: api.HasOrigin | api.HasShown | api.HasMeta, Origin: copied, Shown: 1}
	up[UpWhite-1] = Node(api.White, 2)
	up[UpAway-1] = Node(api.Dir, 2, At(5, "i", UpInner))
	up[UpAway-1].Attr = api.Attr{Has: api.HasRedirect, Redirect: "/b"}
	up[UpLink-1] = Node(api.Link, 1)
	up[UpLink-1].Data = []byte("/a")
	up[UpInner-1] = Node(api.File, 1)
	up[UpInner-1].Data = bytes.Repeat([]byte{7}, 99)
	one, two := make([]api.Node, UpLast), make([]api.Node, UpLast)
	one[api.Root-1] = Node(api.Dir, 2, At(0, "a", LowDir), At(1, "f", LowFile), At(2, "w", LowHid), At(3, "b", LowAway), At(7, "g", LowFile))
	one[LowDir-1] = Node(api.Dir, 2, At(0, "x", LowSub))
	one[LowFile-1], one[LowHid-1], one[LowSub-1], one[LowAway-1] = Node(api.File, 1), Node(api.File, 1), Node(api.Link, 1), Node(api.Dir, 1)
	two[api.Root-1] = Node(api.Dir, 2, At(0, "a", LowDir))
	two[LowDir-1] = Node(api.Dir, 2)
	return api.Stack{Geo: FullGeo(), Upper: api.Branch{Nodes: up}, Lowers: []api.Branch{{Nodes: one}, {Nodes: two}}}
}

// Harms answers one of each clause, by its number; that of 0 is none.
func Harms() []Harm {
	l := make([]Harm, api.ClausePending+1)
	for _, some := range [][]Harm{storedHarms(), namedHarms(), saidHarms(), otherHarms()} {
		for _, h := range some {
			l[h.Want[0].Clause] = h
		}
	}
	return l
}

// Harmed answers the image of Full with some harms.
func Harmed(l ...Harm) []byte {
	s := Full()
	for _, h := range l {
		if h.Stack != nil {
			h.Stack(s.Upper.Nodes)
		}
	}
	b := Image(s)
	for _, h := range l {
		if h.Image != nil {
			b = h.Image(b)
		}
	}
	return b
}

// Node answers a node with these entries.
func Node(kind, nlink int, entries ...api.Entry) api.Node {
	return api.Node{Kind: kind, Nlink: nlink, Entries: entries}
}

// At answers an entry in a slot.
func At(slot int, name string, ino int) api.Entry {
	return api.Entry{Slot: slot, Ino: ino, Name: name}
}

// Garbage answers a sector that is neither an inode nor attributes, nor a log's.
func Garbage() []byte { return bytes.Repeat([]byte{5}, api.Sector) }

// Fit answers the image b, in which the upper bitmap says what is used.
func Fit(b []byte) []byte {
	g, _ := geo.Get(b)
	return Lay(b, geo.Bitmap(g, 0), bitmap.Put(store.Used(b, 0)))
}

// Logged answers the image b, in whose log there are writes of bytes 0 at these sectors.
func Logged(b []byte, ats ...int) []byte {
	g, _ := geo.Get(b)
	var l []api.Write
	for _, at := range ats {
		l = append(l, api.Write{At: at, Bytes: make([]byte, api.Sector)})
	}
	c := bytes.Clone(b)
	copy(c[api.Sector*geo.Log(g):], append(journal.Head(l), journal.Records(l)...))
	return c
}

// Change answers the image b, in which an upper inode is another one.
func Change(b []byte, ino int, change func(x *api.Inode)) []byte {
	g, _ := geo.Get(b)
	at := geo.Inode(g, 0, ino)
	x, _ := inode.Get(b[api.Sector*at : api.Sector*(at+1)])
	change(&x)
	c, _ := inode.Put(x)
	return Lay(b, at, c)
}

func find(clause, ino, slot int) []api.Finding {
	return []api.Finding{{Clause: clause, Ino: ino, Slot: slot}}
}

func redirected(ino int, redirect string) func(up []api.Node) {
	return give(ino, api.Attr{Has: api.HasRedirect, Redirect: redirect})
}

func give(ino int, a api.Attr) func(up []api.Node) {
	return func(up []api.Node) { up[ino-1].Attr = a }
}

// add gives a directory an entry, and some node, that should have them then, so many names.
func add(dir int, e api.Entry, ino, nlink int) func(up []api.Node) {
	return func(up []api.Node) {
		up[dir-1].Entries = append(up[dir-1].Entries, e)
		up[ino-1].Nlink = nlink
	}
}

func storedHarms() []Harm {
	pointer := func(b []byte) []byte { return Change(b, UpFile, func(x *api.Inode) { x.Ptr[3] = 99 }) }
	attributes := func(b []byte) []byte { return Fit(Change(b, UpInner, func(x *api.Inode) { x.Attr = 30 })) }
	return []Harm{
		{Why: "a pointer", Image: pointer, Want: find(api.ClausePtr, UpFile, 3)},
		{Why: "attributes", Image: attributes, Want: find(api.ClauseAttr, UpInner, noSlot)},
		{Why: "a special inode", Stack: func(up []api.Node) { up[api.Work-1] = api.Node{} }, Want: find(api.ClauseSpecial, api.Work, noSlot)},
		{Why: "an inode", Image: func(b []byte) []byte { return Lay(b, geo.Inode(FullGeo(), 0, UpFree), Garbage()) }, Want: find(api.ClauseInode, UpFree, noSlot)},
		{Why: "an entry", Stack: add(UpAway, At(9, "n", UpFree), UpAway, 2), Want: find(api.ClauseEntry, UpAway, 9)},
		{Why: "a directory that is named twice", Stack: add(UpAway, At(9, "n", UpDir), UpAway, 3), Want: find(api.ClauseTwice, UpAway, 9)},
		{Why: "an orphan", Stack: func(up []api.Node) { up[UpLast-1] = Node(api.File, 3) }, Want: find(api.ClauseOrphan, UpLast, noSlot)},
	}
}

func namedHarms() []Harm {
	return []Harm{
		{Why: "a redirect of a File", Stack: redirected(UpInner, "/a"), Want: find(api.ClauseForm, UpInner, noSlot)},
		{Why: "a redirect to its own path", Stack: redirected(UpDir, "/a"), Want: find(api.ClauseLoop, UpDir, noSlot)},
		{Why: "a redirect to nothing", Stack: redirected(UpAway, "/n"), Want: find(api.ClauseGone, UpAway, noSlot)},
		{Why: "a redirect to what another one has", Stack: redirected(UpAway, "/a"), Want: find(api.ClauseSame, UpAway, noSlot)},
		{Why: "a whiteout", Stack: add(UpAway, At(9, "n", UpWhite), UpWhite, 3), Want: find(api.ClauseWhite, UpAway, 9)},
		{Why: "an entry of the index", Stack: add(api.Index, At(9, "n", UpInner), UpInner, 2), Want: find(api.ClauseIndex, api.Index, 9)},
		{Why: "what is left over", Stack: add(api.Work, At(9, "n", UpInner), UpInner, 2), Want: find(api.ClauseWork, api.Work, 9)},
	}
}

func saidHarms() []Harm {
	return []Harm{
		{Why: "a marker", Stack: give(UpDir, api.Attr{Has: api.HasOpaque, Opaque: 1}), Want: find(api.ClauseOpaque, UpDir, noSlot)},
		{Why: "an origin", Stack: give(UpLink, api.Attr{Has: api.HasOrigin, Origin: api.Origin{Layer: 1, Ino: LowFile, Gen: 1}}), Want: find(api.ClauseOrigin, UpLink, noSlot)},
		{Why: "bytes that are nowhere", Stack: give(UpInner, api.Attr{Has: api.HasMeta}), Want: find(api.ClauseMeta, UpInner, noSlot)},
		{Why: "impure without copies", Stack: func(up []api.Node) { up[UpAway-1].Impure = api.Mark }, Want: find(api.ClauseImpure, UpAway, noSlot)},
		{Why: "another number of names", Stack: func(up []api.Node) { up[UpLink-1].Nlink = 9 }, Want: find(api.ClauseLinks, UpLink, noSlot)},
		{Why: "another number of names that are shown", Stack: func(up []api.Node) { up[UpFile-1].Attr.Shown = 9 }, Want: find(api.ClauseShown, UpFile, noSlot)},
	}
}

func otherHarms() []Harm {
	bit := func(b []byte) []byte {
		c := bytes.Clone(b)
		c[api.Sector*geo.Bitmap(FullGeo(), 0)+3] ^= 1
		return c
	}
	return []Harm{
		{Why: "a bitmap", Image: bit, Want: find(api.ClauseBitmap, 0, noSlot)},
		{Why: "a lower layer", Image: func(b []byte) []byte { return Lay(b, geo.Inode(FullGeo(), 2, UpLast), Garbage()) }, Want: []api.Finding{{Clause: api.ClauseLower, Layer: 2, Slot: noSlot}}},
		{Why: "a log", Image: func(b []byte) []byte { return Logged(b, geo.Bitmap(FullGeo(), 0)) }, Want: find(api.ClausePending, 0, noSlot)},
	}
}
