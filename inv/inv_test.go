package inv_test

import (
	"bytes"
	"cmp"
	"math"
	"math/rand"
	"slices"
	"testing"

	"craquelure/api"
	"craquelure/bitmap"
	"craquelure/geo"
	"craquelure/handle"
	"craquelure/impure"
	"craquelure/index"
	"craquelure/inode"
	"craquelure/inv"
	"craquelure/journal"
	"craquelure/links"
	"craquelure/origin"
	"craquelure/redirect"
	"craquelure/sample"
	"craquelure/store"
	"craquelure/tally"
	"craquelure/white"
)

// Inodes of the upper layer of clean.
const (
	dir, file, whiteout, away, link, inner, free, last = 4, 5, 6, 7, 8, 9, 11, 12
)

// Inodes of its lower layers.
const (
	lowDir, lowFile, lowHid, lowSub, lowAway = 2, 3, 4, 5, 6
)

var layout = api.Geo{Lowers: 2, Inodes: 12, Blocks: 30, Log: 5}

func find(clause, ino, slot int) api.Finding {
	return api.Finding{Clause: clause, Ino: ino, Slot: slot}
}

func broken(layer int) api.Finding {
	return api.Finding{Clause: api.ClauseLower, Layer: layer, Slot: -1}
}

var pending = find(api.ClausePending, 0, -1)

// at is an entry in a slot.
func at(slot int, name string, ino int) api.Entry {
	return api.Entry{Slot: slot, Ino: ino, Name: name}
}

func node(kind, nlink int, entries ...api.Entry) api.Node {
	return api.Node{Kind: kind, Nlink: nlink, Entries: entries}
}

// clean is a stack with which nothing is wrong, and that has something of all kinds.
func clean() api.Stack {
	copied := api.Origin{Layer: 1, Ino: lowFile}
	name, _ := handle.Name(copied)
	up := make([]api.Node, layout.Inodes)
	up[api.Root-1] = node(api.Dir, 4, at(0, "a", dir), at(1, "f", file), at(2, "w", whiteout), at(3, "r", away), at(4, "b", whiteout), at(6, "l", link))
	up[api.Root-1].Impure = api.Mark
	up[api.Work-1] = node(api.Dir, 2)
	up[api.Index-1] = node(api.Dir, 2, at(0, name, file))
	up[dir-1] = node(api.Dir, 2)
	up[file-1] = node(api.File, 2)
	up[file-1].Attr = api.Attr{Has: api.HasOrigin | api.HasShown | api.HasMeta, Origin: copied, Shown: 1}
	up[whiteout-1] = node(api.White, 2)
	up[away-1] = node(api.Dir, 2, at(5, "i", inner))
	up[away-1].Attr = api.Attr{Has: api.HasRedirect, Redirect: "/b"}
	up[link-1] = node(api.Link, 1)
	up[link-1].Data = []byte("/a")
	up[inner-1] = node(api.File, 1)
	up[inner-1].Data = bytes.Repeat([]byte{7}, 99)
	one, two := make([]api.Node, layout.Inodes), make([]api.Node, layout.Inodes)
	one[api.Root-1] = node(api.Dir, 2, at(0, "a", lowDir), at(1, "f", lowFile), at(2, "w", lowHid), at(3, "b", lowAway), at(7, "g", lowFile))
	one[lowDir-1] = node(api.Dir, 2, at(0, "x", lowSub))
	one[lowFile-1], one[lowHid-1], one[lowSub-1], one[lowAway-1] = node(api.File, 1), node(api.File, 1), node(api.Link, 1), node(api.Dir, 1)
	two[api.Root-1] = node(api.Dir, 2, at(0, "a", lowDir))
	two[lowDir-1] = node(api.Dir, 2)
	return api.Stack{Geo: layout, Upper: api.Branch{Nodes: up}, Lowers: []api.Branch{{Nodes: one}, {Nodes: two}}}
}

// fit is the image, in which the upper bitmap says what is used.
func fit(b []byte) []byte {
	g, _ := geo.Get(b)
	return sample.Lay(b, geo.Bitmap(g, 0), bitmap.Put(store.Used(b, 0)))
}

// logged is the image, with writes in its log.
func logged(b []byte, ats ...int) []byte {
	g, _ := geo.Get(b)
	var l []api.Write
	for _, at := range ats {
		l = append(l, api.Write{At: at, Bytes: make([]byte, 64)})
	}
	c := bytes.Clone(b)
	copy(c[64*geo.Log(g):], append(journal.Head(l), journal.Records(l)...))
	return c
}

// repoint is the image, in which an upper inode is another one.
func repoint(b []byte, ino int, change func(x *api.Inode)) []byte {
	at := geo.Inode(layout, 0, ino)
	x, _ := inode.Get(b[64*at : 64*at+64])
	change(&x)
	c, _ := inode.Put(x)
	return sample.Lay(b, at, c)
}

func garbage() []byte { return bytes.Repeat([]byte{5}, 64) }

// mustFind wants these findings, in turn, and that the image is clean just if there are none.
func mustFind(t *testing.T, why string, b []byte, want ...api.Finding) {
	t.Helper()
	before := bytes.Clone(b)
	if l, e := inv.All(b); e != api.OK || !slices.Equal(l, want) {
		t.Errorf("%s: All: %v, %d, not %v", why, l, e, want)
	}
	if got := inv.Clean(b); got != (len(want) == 0) {
		t.Errorf("%s: Clean: %v of %v", why, got, want)
	}
	if !bytes.Equal(b, before) {
		t.Fatalf("%s: the image is changed", why)
	}
}

func mustBeNone(t *testing.T, why string, b []byte) {
	t.Helper()
	if l, e := inv.All(b); e != api.ErrForm || len(l) != 0 {
		t.Errorf("%s: All: %v, %d", why, l, e)
	}
	if inv.Clean(b) {
		t.Errorf("%s: Clean", why)
	}
}

// The chapter's example, and two of the document.
func TestExamples(t *testing.T) {
	mustBeNone(t, "no image", []byte("no image"))
	g := api.Geo{Lowers: 1, Inodes: 4, Blocks: 2, Log: 3}
	root := api.Branch{Nodes: []api.Node{node(api.Dir, 2)}}
	mustFind(t, "bytes 0", sample.Image(api.Stack{Geo: g, Lowers: []api.Branch{root}}), find(3, 1, -1), find(3, 2, -1), find(3, 3, -1))
	up := api.Branch{Nodes: []api.Node{node(api.Dir, 2, at(9, "z", 4)), node(api.Dir, 2), node(api.Dir, 2), node(api.White, 1)}}
	mustFind(t, "a whiteout", sample.Image(api.Stack{Geo: g, Upper: up, Lowers: []api.Branch{root}}), find(15, 1, 9))
}

// P28.1: nothing is wrong with images of stacks that are as they should be.
func TestClean(t *testing.T) {
	mustFind(t, "clean", sample.Image(clean()))
	r := rand.New(rand.NewSource(3))
	for range 300 {
		g := api.Geo{Lowers: 1 + r.Intn(3), Inodes: 4 + r.Intn(10), Blocks: 60, Log: 1 + r.Intn(64)}
		mustFind(t, "any stack", sample.Image(sample.Stack(g, r.Intn)))
	}
}

// P28.1: of what is no image geo.Get's error is told, and it is not clean.
func TestNoImage(t *testing.T) {
	b := sample.Image(clean())
	mustBeNone(t, "nothing", nil)
	mustBeNone(t, "nothing", []byte{})
	for n := range len(b) {
		if n < 130 || n%64 < 2 || n > len(b)-66 {
			mustBeNone(t, "cut", b[:n])
		}
	}
	for _, n := range []int{1, 63, 64, 65, len(b)} {
		mustBeNone(t, "more bytes", append(bytes.Clone(b), make([]byte, n)...))
	}
	for i := range 64 {
		c := bytes.Clone(b)
		c[i] ^= 1
		mustBeNone(t, "another first sector", c)
	}
	mustBeNone(t, "bytes 0", make([]byte, len(b)))
	mustBeNone(t, "without its first sector", b[64:])
}

// harm is what makes something wrong with a clean stack, or with its image, and what is found then.
type harm struct {
	why   string
	stack func(up []api.Node)
	image func(b []byte) []byte
	want  []api.Finding
}

func enter(n *api.Node, e api.Entry) {
	n.Entries = append(n.Entries, e)
}

func attr(a api.Attr, ino int) func(up []api.Node) {
	return func(up []api.Node) { up[ino-1].Attr = a }
}

// harms has one of each clause, by its number.
func harms() []harm {
	redirected := func(ino int, to string) func(up []api.Node) {
		return attr(api.Attr{Has: api.HasRedirect, Redirect: to}, ino)
	}
	return []harm{
		1:  {why: "a pointer", image: func(b []byte) []byte { return repoint(b, file, func(x *api.Inode) { x.Ptr[3] = 99 }) }, want: []api.Finding{find(1, file, 3)}},
		2:  {why: "attributes", image: func(b []byte) []byte { return fit(repoint(b, inner, func(x *api.Inode) { x.Attr = 30 })) }, want: []api.Finding{find(2, inner, -1)}},
		3:  {why: "a special inode", stack: func(up []api.Node) { up[api.Work-1] = api.Node{} }, want: []api.Finding{find(3, api.Work, -1)}},
		4:  {why: "an inode", image: func(b []byte) []byte { return sample.Lay(b, geo.Inode(layout, 0, free), garbage()) }, want: []api.Finding{find(4, free, -1)}},
		5:  {why: "an entry", stack: func(up []api.Node) { enter(&up[away-1], at(9, "n", free)) }, want: []api.Finding{find(5, away, 9)}},
		6:  {why: "a directory that is named twice", stack: func(up []api.Node) { enter(&up[away-1], at(9, "n", dir)); up[away-1].Nlink = 3 }, want: []api.Finding{find(6, away, 9)}},
		7:  {why: "an orphan", stack: func(up []api.Node) { up[last-1] = node(api.File, 3) }, want: []api.Finding{find(7, last, -1)}},
		8:  {why: "a marker", stack: attr(api.Attr{Has: api.HasOpaque, Opaque: 1}, dir), want: []api.Finding{find(8, dir, -1)}},
		9:  {why: "a redirect of a File", stack: redirected(inner, "/a"), want: []api.Finding{find(9, inner, -1)}},
		10: {why: "a redirect to its own path", stack: redirected(dir, "/a"), want: []api.Finding{find(10, dir, -1)}},
		11: {why: "a redirect to nothing", stack: redirected(away, "/n"), want: []api.Finding{find(11, away, -1)}},
		12: {why: "a redirect to what another one has", stack: redirected(away, "/a"), want: []api.Finding{find(12, away, -1)}},
		13: {why: "an origin", stack: attr(api.Attr{Has: api.HasOrigin, Origin: api.Origin{Layer: 1, Ino: lowFile, Gen: 1}}, link), want: []api.Finding{find(13, link, -1)}},
		14: {why: "bytes that are nowhere", stack: attr(api.Attr{Has: api.HasMeta}, inner), want: []api.Finding{find(14, inner, -1)}},
		15: {why: "a whiteout", stack: func(up []api.Node) { enter(&up[away-1], at(9, "n", whiteout)); up[whiteout-1].Nlink = 3 }, want: []api.Finding{find(15, away, 9)}},
		16: {why: "an entry of the index", stack: func(up []api.Node) { enter(&up[api.Index-1], at(9, "n", inner)); up[inner-1].Nlink = 2 }, want: []api.Finding{find(16, api.Index, 9)}},
		17: {why: "what is left over", stack: func(up []api.Node) { enter(&up[api.Work-1], at(9, "n", inner)); up[inner-1].Nlink = 2 }, want: []api.Finding{find(17, api.Work, 9)}},
		18: {why: "impure without copies", stack: func(up []api.Node) { up[away-1].Impure = api.Mark }, want: []api.Finding{find(18, away, -1)}},
		19: {why: "another number of names", stack: func(up []api.Node) { up[link-1].Nlink = 9 }, want: []api.Finding{find(19, link, -1)}},
		20: {why: "another number of names that are shown", stack: func(up []api.Node) { up[file-1].Attr.Shown = 9 }, want: []api.Finding{find(20, file, -1)}},
		21: {why: "a bitmap", image: func(b []byte) []byte { b[64*geo.Bitmap(layout, 0)+3] ^= 1; return b }, want: []api.Finding{find(21, 0, -1)}},
		22: {why: "a lower layer", image: func(b []byte) []byte { return sample.Lay(b, geo.Inode(layout, 2, last), garbage()) }, want: []api.Finding{broken(2)}},
		23: {why: "a log", image: func(b []byte) []byte { return logged(b, geo.Bitmap(layout, 0)) }, want: []api.Finding{pending}},
	}
}

// harmed is the image of a clean stack with some harms.
func harmed(l ...harm) []byte {
	s := clean()
	for _, h := range l {
		if h.stack != nil {
			h.stack(s.Upper.Nodes)
		}
	}
	b := sample.Image(s)
	for _, h := range l {
		if h.image != nil {
			b = h.image(b)
		}
	}
	return b
}

// P28.1: a finding of each clause, and so of each of the layers that tell them, alone.
func TestEachClause(t *testing.T) {
	for clause, h := range harms()[1:] {
		if len(h.want) != 1 || h.want[0].Clause != clause+1 {
			t.Fatal(h.why)
		}
		mustFind(t, h.why, harmed(h), h.want...)
	}
}

// P28.1: harms that touch other nodes, two and two: both are found, in Order.
func TestTwoClauses(t *testing.T) {
	apart := []int{1, 4, 5, 7, 8, 13, 14, 16, 18, 20, 22, 23}
	l := harms()
	for _, i := range apart {
		for _, j := range apart {
			if i < j {
				mustFind(t, l[i].why+", "+l[j].why, harmed(l[j], l[i]), l[i].want[0], l[j].want[0])
			}
		}
	}
}

// P28.1: many harms at once, lower layers that are not whole and a log that is pending among them.
func TestManyClauses(t *testing.T) {
	l := harms()
	b := harmed(l[1], l[4], l[5], l[7], l[8], l[11], l[13], l[14], l[16], l[17], l[18], l[20], l[21], l[22], l[23])
	b = sample.Lay(b, geo.Inode(layout, 1, last), garbage())
	mustFind(t, "many", b,
		find(1, file, 3), find(4, free, -1), find(5, away, 9), find(7, last, -1), find(8, dir, -1), find(11, away, -1),
		find(13, link, -1), find(14, inner, -1), find(16, 3, 9), find(17, 2, 9), find(18, away, -1), find(19, inner, -1),
		find(20, file, -1), find(21, 0, -1), broken(1), broken(2), pending)
	b = harmed(l[7], l[18], l[22], l[23])
	mustFind(t, "a lower layer and a log", b, find(7, last, -1), find(18, away, -1), broken(2), pending)
}

// P28.1: the findings of a clause stand by inode and slot.
func TestOneClause(t *testing.T) {
	s := clean()
	up := s.Upper.Nodes
	up[away-1].Entries = []api.Entry{at(0, "n", whiteout), at(5, "i", inner), at(9, "o", whiteout)}
	up[api.Root-1].Entries = append(up[api.Root-1].Entries, at(15, "q", whiteout))
	up[dir-1].Entries = []api.Entry{at(7, "z", whiteout), at(8, "x", whiteout)}
	up[whiteout-1].Nlink = 9
	up[link-1].Nlink, up[api.Index-1].Nlink = 0, 65535
	mustFind(t, "by inode and slot", sample.Image(s),
		find(15, api.Root, 15), find(15, dir, 7), find(15, away, 0), find(15, away, 9),
		find(19, api.Index, -1), find(19, whiteout, -1), find(19, link, -1))
}

// P28.1: each set of lower layers that are not whole, of one to three layers, with a log that is pending and without.
func TestLower(t *testing.T) {
	root := api.Branch{Nodes: []api.Node{node(api.Dir, 2)}}
	up := api.Branch{Nodes: slices.Repeat([]api.Node{node(api.Dir, 2)}, 3)}
	breaks := []func(n []api.Node){
		func(n []api.Node) { n[0] = api.Node{} },
		func(n []api.Node) { n[3] = node(api.File, 1) },
		func(n []api.Node) { enter(&n[0], at(3, "a", 2)) },
	}
	for lowers := 1; lowers <= 3; lowers++ {
		for set := range 1 << lowers {
			for _, spoil := range breaks {
				s := api.Stack{Geo: api.Geo{Lowers: lowers, Inodes: 4, Blocks: 5, Log: 4}, Upper: up}
				var want []api.Finding
				for i := range lowers {
					l := make([]api.Node, 4)
					copy(l, root.Nodes)
					if set>>i&1 == 1 {
						spoil(l)
						want = append(want, broken(i+1))
					}
					s.Lowers = append(s.Lowers, api.Branch{Nodes: l})
				}
				b := sample.Image(s)
				mustFind(t, "lower layers", b, want...)
				mustFind(t, "lower layers, and a log", logged(b, geo.Inode(s.Geo, 0, 4)), append(want, pending)...)
				b[64*geo.Inode(s.Geo, 0, 4)] = 9
				mustFind(t, "lower layers, and an inode", b, append([]api.Finding{find(4, 4, -1)}, want...)...)
			}
		}
	}
}

// P28.1: a log is pending just if something is read of it; its writes are not done.
func TestPending(t *testing.T) {
	b := sample.Image(clean())
	root := geo.Inode(layout, 0, 1)
	mustFind(t, "a log of one", logged(b, root), pending)
	mustFind(t, "a log of two", logged(b, root, root), pending)
	mustFind(t, "no sector of the upper layer", logged(b, geo.Log(layout)))
	mustFind(t, "of the lower layers", logged(b, root, geo.Inode(layout, 1, 1)))
	mustFind(t, "Empty", sample.Lay(b, geo.Log(layout), journal.Empty()))
	mustFind(t, "garbage", sample.Lay(b, geo.Log(layout), garbage()))
	c := logged(b, root)
	c[64*(geo.Log(layout)+1)] ^= 1
	mustFind(t, "another record", c)
	mustFind(t, "none, that says it has", sample.Lay(b, geo.Log(layout), journal.Head(nil)))
}

// P28.1: by Clause, then by Layer, Ino and Slot, the lesser first.
func TestOrder(t *testing.T) {
	var rising []api.Finding
	for _, clause := range []int{math.MinInt, -1, 1, 2, 23, math.MaxInt} {
		for _, layer := range []int{math.MinInt, 0, 1, 3, math.MaxInt} {
			for _, ino := range []int{math.MinInt, 0, 1, 24, math.MaxInt} {
				for _, slot := range []int{math.MinInt, -1, 0, 15, math.MaxInt} {
					rising = append(rising, api.Finding{Clause: clause, Layer: layer, Ino: ino, Slot: slot})
				}
			}
		}
	}
	for i, a := range rising {
		for j, b := range rising {
			if got := inv.Order(a, b); got != cmp.Compare(i, j) {
				t.Fatalf("Order(%v, %v): %d", a, b, got)
			}
		}
	}
	if inv.Order(api.Finding{}, api.Finding{}) != 0 {
		t.Error("Order of nothing")
	}
}

// P28.1: what is there, wherever it stands; what differs in one field alone is not.
func TestHas(t *testing.T) {
	l := []api.Finding{{Clause: 1, Layer: 0, Ino: 4, Slot: 2}, {Clause: 22, Layer: 3, Ino: 0, Slot: -1}, {Clause: 7, Layer: 0, Ino: 5, Slot: -1}}
	before := slices.Clone(l)
	for i, f := range l {
		if !inv.Has(l, f) || !inv.Has(l[i:], f) || inv.Has(l[i+1:], f) || inv.Has(l[:i], f) {
			t.Errorf("Has %v", f)
		}
		for _, d := range append(sample.Far(), -1, 1) {
			for _, other := range []api.Finding{
				{Clause: f.Clause + d, Layer: f.Layer, Ino: f.Ino, Slot: f.Slot},
				{Clause: f.Clause, Layer: f.Layer + d, Ino: f.Ino, Slot: f.Slot},
				{Clause: f.Clause, Layer: f.Layer, Ino: f.Ino + d, Slot: f.Slot},
				{Clause: f.Clause, Layer: f.Layer, Ino: f.Ino, Slot: f.Slot + d},
			} {
				if inv.Has(l, other) {
					t.Errorf("Has %v", other)
				}
			}
		}
	}
	if inv.Has(nil, api.Finding{}) || inv.Has([]api.Finding{}, l[0]) || !inv.Has([]api.Finding{{}}, api.Finding{}) || !slices.Equal(l, before) {
		t.Error("Has of nothing")
	}
}

// rises tells whether a stands ahead of b, by the chapter's words.
func rises(a, b api.Finding) bool {
	switch {
	case a.Clause != b.Clause:
		return a.Clause < b.Clause
	case a.Layer != b.Layer:
		return a.Layer < b.Layer
	case a.Ino != b.Ino:
		return a.Ino < b.Ino
	}
	return a.Slot < b.Slot
}

// wrong is all that is wrong with an image, by the chapter's words: each finding is put where it belongs.
func wrong(b []byte) []api.Finding {
	g, _ := geo.Get(b)
	l, _ := store.Upper(b)
	s, _ := store.Stack(b)
	for _, more := range [][]api.Finding{white.Findings(s), redirect.Findings(s), origin.Findings(s), index.Findings(s), impure.Findings(s), tally.Findings(s), links.Findings(s)} {
		l = append(l, more...)
	}
	for layer := g.Lowers; layer > 0; layer-- {
		if !store.Whole(b, layer) {
			l = append(l, broken(layer))
		}
	}
	if _, ok := journal.Read(b); ok {
		l = append(l, pending)
	}
	var ordered []api.Finding
	for _, f := range l {
		i := 0
		for i < len(ordered) && rises(ordered[i], f) {
			i++
		}
		ordered = slices.Insert(ordered, i, f)
	}
	return ordered
}

// alter makes a node that is not free another one, in some part.
func alter(r *rand.Rand, n *api.Node, inodes int) {
	if n.Kind == api.Free {
		return
	}
	name := "abcde"[r.Intn(5):][:1]
	switch r.Intn(9) {
	case 0:
		n.Nlink = r.Intn(5)
	case 1:
		n.Impure = r.Intn(2) * api.Mark
	case 2:
		n.Attr = api.Attr{Has: api.HasMeta | n.Attr.Has, Opaque: n.Attr.Opaque, Redirect: n.Attr.Redirect, Origin: n.Attr.Origin, Shown: n.Attr.Shown}
	case 3:
		n.Attr = api.Attr{Has: api.HasOpaque | api.HasShown, Opaque: 120 + r.Intn(3), Shown: r.Intn(3)}
	case 4:
		n.Attr = api.Attr{Has: api.HasRedirect, Redirect: []string{name, "/" + name + "/a", "//"}[r.Intn(3)]}
	case 5:
		n.Attr = api.Attr{Has: api.HasOrigin, Origin: api.Origin{Layer: r.Intn(4), Ino: r.Intn(9), Gen: r.Intn(3)}}
	case 6:
		if n.Kind == api.Dir {
			n.Entries = append(n.Entries, at(8+r.Intn(8), name, 1+r.Intn(inodes+2)))
		}
	case 7:
		if n.Kind == api.File {
			*n = api.Node{Kind: api.White, Nlink: n.Nlink}
		}
	default:
		n.Attr = api.Attr{Has: api.HasRedirect, Redirect: "/" + name}
	}
}

// point gives some directories one redirect, to a lower directory if there is one.
func point(r *rand.Rand, s api.Stack) {
	to := "/a"
	for _, e := range s.Lowers[0].Nodes[0].Entries {
		if s.Lowers[0].Nodes[e.Ino-1].Kind == api.Dir {
			to = "/" + e.Name
		}
	}
	up := s.Upper.Nodes
	for i, n := range up {
		if i >= api.Index && n.Kind == api.Dir && r.Intn(3) > 0 {
			up[i].Attr = api.Attr{Has: api.HasRedirect, Redirect: to}
		}
	}
}

// some is an image with which this and that is wrong.
func some(t *testing.T, r *rand.Rand) []byte {
	g := api.Geo{Lowers: 1 + r.Intn(3), Inodes: 6 + r.Intn(8), Blocks: 60, Log: 1 + r.Intn(9)}
	s := sample.Stack(g, r.Intn)
	if r.Intn(4) == 0 {
		point(r, s)
	}
	for range r.Intn(6) {
		alter(r, &s.Upper.Nodes[r.Intn(g.Inodes)], g.Inodes)
	}
	if r.Intn(6) == 0 {
		alter(r, &s.Lowers[0].Nodes[r.Intn(g.Inodes)], g.Inodes)
	}
	b := sample.Image(s)
	if b == nil {
		t.Fatal(s)
	}
	upper := 64 * geo.Bitmap(g, 0)
	end := 64 * geo.Log(g)
	for range r.Intn(3) {
		b[upper+r.Intn(end-upper)] ^= 1 << r.Intn(8)
	}
	if r.Intn(3) == 0 {
		copy(b[upper+64*r.Intn(20):end], b[upper+64*r.Intn(20):][:64])
	}
	if r.Intn(8) == 0 {
		b[64+r.Intn(end-64)] ^= 1
	}
	if room := journal.Cap(g); room > 0 && r.Intn(4) == 0 {
		b = logged(b, slices.Repeat([]int{geo.Bitmap(g, 0) + r.Intn(9)}, 1+r.Intn(room))...)
	}
	return b
}

// P28.1, P28.2: many images, held against a second reading of the words; no finding is told twice, and each is of a clause, and of a layer that there is.
func TestMany(t *testing.T) {
	r := rand.New(rand.NewSource(1))
	var met [api.ClausePending + 1]int
	for range 4000 {
		b := some(t, r)
		g, _ := geo.Get(b)
		l := wrong(b)
		mustFind(t, "any image", b, l...)
		for i, f := range l {
			if i > 0 && inv.Order(l[i-1], f) != -1 || f.Clause < 1 || f.Clause > api.ClausePending {
				t.Fatalf("%v in %v", f, l)
			}
			if lower := f.Clause == api.ClauseLower; lower != (f.Layer > 0) || f.Layer > g.Lowers || f.Ino < 0 || f.Ino > g.Inodes || f.Slot < -1 || f.Slot > 15 {
				t.Fatalf("%v in %v", f, l)
			}
			met[f.Clause]++
			if !inv.Has(l, f) {
				t.Fatalf("Has %v", f)
			}
		}
		if len(l) == 0 {
			met[0]++
		}
	}
	for clause, n := range met {
		if n < 20 {
			t.Errorf("clause %d is met %d times", clause, n)
		}
	}
}

// P0, P28.2: upper layers and logs of any bytes: nothing is told twice.
func TestAnyBytes(t *testing.T) {
	r := rand.New(rand.NewSource(2))
	for range 300 {
		g := api.Geo{Lowers: 1 + r.Intn(3), Inodes: 4 + r.Intn(21), Blocks: 1 + r.Intn(60), Log: 1 + r.Intn(9)}
		b := sample.Image(api.Stack{Geo: g, Lowers: make([]api.Branch, g.Lowers)})
		r.Read(b[64*(1+r.Intn(geo.Bitmap(g, 0))):])
		l, e := inv.All(b)
		if e != api.OK || len(l) == 0 || !slices.Equal(l, wrong(b)) || inv.Clean(b) {
			t.Fatal(l, e)
		}
		if n := len(l); len(slices.Compact(l)) != n {
			t.Errorf("told twice: %v", l)
		}
	}
}

// The answers share no memory with the image, nor with other answers.
func TestAnswersShareNothing(t *testing.T) {
	l := harms()
	b := harmed(l[5], l[20], l[22], l[23])
	want := []api.Finding{l[5].want[0], l[20].want[0], l[22].want[0], l[23].want[0]}
	first, _ := inv.All(b)
	again, _ := inv.All(b)
	clear(first[:cap(first)])
	clear(b)
	if !slices.Equal(again, want) {
		t.Errorf("All: %v", again)
	}
}
