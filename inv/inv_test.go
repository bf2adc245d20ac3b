package inv_test

import (
	"bytes"
	"cmp"
	"math"
	"math/rand"
	"slices"
	"testing"

	"craquelure/api"
	"craquelure/geo"
	"craquelure/impure"
	"craquelure/index"
	"craquelure/inv"
	"craquelure/journal"
	"craquelure/links"
	"craquelure/origin"
	"craquelure/redirect"
	"craquelure/sample"
	"craquelure/store"
	"craquelure/tally"
	"craquelure/white"
)

// Inodes of the upper layer of sample.Full.
const (
	dir, file, whiteout, away, link, inner, free, last = sample.UpDir, sample.UpFile, sample.UpWhite, sample.UpAway, sample.UpLink, sample.UpInner, sample.UpFree, sample.UpLast
)

var layout = sample.FullGeo()

func find(clause, ino, slot int) api.Finding {
	return api.Finding{Clause: clause, Ino: ino, Slot: slot}
}

func broken(layer int) api.Finding {
	return api.Finding{Clause: api.ClauseLower, Layer: layer, Slot: -1}
}

var pending = find(api.ClausePending, 0, -1)

// mustFind wants these findings, in turn, and that the image is clean just if there are none.
func mustFind(t *testing.T, why string, b []byte, want ...api.Finding) {
	t.Helper()
	before := bytes.Clone(b)
	if l, e := inv.All(b); e != api.OK || !slices.Equal(l, want) {
		t.Errorf("%s: All: %v, %d, not %v", why, l, e, want)
	}
	if got := inv.Clean(b); got != (len(want) == 0) {
		t.Errorf("%s: Clean: %v of %v", why, got, want)
	}
	if !bytes.Equal(b, before) {
		t.Fatalf("%s: the image is changed", why)
	}
}

func mustBeNone(t *testing.T, why string, b []byte) {
	t.Helper()
	if l, e := inv.All(b); e != api.ErrForm || len(l) != 0 {
		t.Errorf("%s: All: %v, %d", why, l, e)
	}
	if inv.Clean(b) {
		t.Errorf("%s: Clean", why)
	}
}

// The chapter's example, and two of the document.
func TestExamples(t *testing.T) {
	mustBeNone(t, "no image", []byte("no image"))
	g := api.Geo{Lowers: 1, Inodes: 4, Blocks: 2, Log: 3}
	root := api.Branch{Nodes: []api.Node{sample.Node(api.Dir, 2)}}
	mustFind(t, "bytes 0", sample.Image(api.Stack{Geo: g, Lowers: []api.Branch{root}}), find(3, 1, -1), find(3, 2, -1), find(3, 3, -1))
	up := api.Branch{Nodes: []api.Node{sample.Node(api.Dir, 2, sample.At(9, "z", 4)), sample.Node(api.Dir, 2), sample.Node(api.Dir, 2), sample.Node(api.White, 1)}}
	mustFind(t, "a whiteout", sample.Image(api.Stack{Geo: g, Upper: up, Lowers: []api.Branch{root}}), find(15, 1, 9))
}

// P28.1: nothing is wrong with images of stacks that are as they should be.
func TestClean(t *testing.T) {
	mustFind(t, "clean", sample.Image(sample.Full()))
	r := rand.New(rand.NewSource(3))
	for range 300 {
		g := api.Geo{Lowers: 1 + r.Intn(3), Inodes: 4 + r.Intn(10), Blocks: 60, Log: 1 + r.Intn(64)}
		mustFind(t, "any stack", sample.Image(sample.Stack(g, r.Intn)))
	}
}

// P28.1: of what is no image geo.Get's error is told, and it is not clean.
func TestNoImage(t *testing.T) {
	b := sample.Image(sample.Full())
	mustBeNone(t, "nothing", nil)
	mustBeNone(t, "nothing", []byte{})
	for n := range len(b) {
		if n < 130 || n%64 < 2 || n > len(b)-66 {
			mustBeNone(t, "cut", b[:n])
		}
	}
	for _, n := range []int{1, 63, 64, 65, len(b)} {
		mustBeNone(t, "more bytes", append(bytes.Clone(b), make([]byte, n)...))
	}
	for i := range 64 {
		c := bytes.Clone(b)
		c[i] ^= 1
		mustBeNone(t, "another first sector", c)
	}
	mustBeNone(t, "bytes 0", make([]byte, len(b)))
	mustBeNone(t, "without its first sector", b[64:])
}

// P28.1: a finding of each clause, and so of each of the layers that tell them, alone.
func TestEachClause(t *testing.T) {
	for clause, h := range sample.Harms()[1:] {
		if len(h.Want) != 1 || h.Want[0].Clause != clause+1 {
			t.Fatal(h.Why)
		}
		mustFind(t, h.Why, sample.Harmed(h), h.Want...)
	}
}

// P28.1: harms that touch other nodes, two and two: both are found, in Order.
func TestTwoClauses(t *testing.T) {
	apart := []int{1, 4, 5, 7, 8, 13, 14, 16, 18, 20, 22, 23}
	l := sample.Harms()
	for _, i := range apart {
		for _, j := range apart {
			if i < j {
				mustFind(t, l[i].Why+", "+l[j].Why, sample.Harmed(l[j], l[i]), l[i].Want[0], l[j].Want[0])
			}
		}
	}
}

// P28.1: many harms at once, lower layers that are not whole and a log that is pending among them.
func TestManyClauses(t *testing.T) {
	l := sample.Harms()
	b := sample.Harmed(l[1], l[4], l[5], l[7], l[8], l[11], l[13], l[14], l[16], l[17], l[18], l[20], l[21], l[22], l[23])
	b = sample.Lay(b, geo.Inode(layout, 1, last), sample.Garbage())
	mustFind(t, "many", b,
		find(1, file, 3), find(4, free, -1), find(5, away, 9), find(7, last, -1), find(8, dir, -1), find(11, away, -1),
		find(13, link, -1), find(14, inner, -1), find(16, 3, 9), find(17, 2, 9), find(18, away, -1), find(19, inner, -1),
		find(20, file, -1), find(21, 0, -1), broken(1), broken(2), pending)
	b = sample.Harmed(l[7], l[18], l[22], l[23])
	mustFind(t, "a lower layer and a log", b, find(7, last, -1), find(18, away, -1), broken(2), pending)
}

// P28.1: the findings of a clause stand by inode and slot.
func TestOneClause(t *testing.T) {
	s := sample.Full()
	up := s.Upper.Nodes
	up[away-1].Entries = []api.Entry{sample.At(0, "n", whiteout), sample.At(5, "i", inner), sample.At(9, "o", whiteout)}
	up[api.Root-1].Entries = append(up[api.Root-1].Entries, sample.At(15, "q", whiteout))
	up[dir-1].Entries = []api.Entry{sample.At(7, "z", whiteout), sample.At(8, "x", whiteout)}
	up[whiteout-1].Nlink = 9
	up[link-1].Nlink, up[api.Index-1].Nlink = 0, 65535
	mustFind(t, "by inode and slot", sample.Image(s),
		find(15, api.Root, 15), find(15, dir, 7), find(15, away, 0), find(15, away, 9),
		find(19, api.Index, -1), find(19, whiteout, -1), find(19, link, -1))
}

// P28.1: each set of lower layers that are not whole, of one to three layers, with a log that is pending and without.
func TestLower(t *testing.T) {
	root := api.Branch{Nodes: []api.Node{sample.Node(api.Dir, 2)}}
	up := api.Branch{Nodes: slices.Repeat([]api.Node{sample.Node(api.Dir, 2)}, 3)}
	breaks := []func(n []api.Node){
		func(n []api.Node) { n[0] = api.Node{} },
		func(n []api.Node) { n[3] = sample.Node(api.File, 1) },
		func(n []api.Node) { n[0].Entries = append(n[0].Entries, sample.At(3, "a", 2)) },
	}
	for lowers := 1; lowers <= 3; lowers++ {
		for set := range 1 << lowers {
			for _, spoil := range breaks {
				s := api.Stack{Geo: api.Geo{Lowers: lowers, Inodes: 4, Blocks: 5, Log: 4}, Upper: up}
				var want []api.Finding
				for i := range lowers {
					l := make([]api.Node, 4)
					copy(l, root.Nodes)
					if set>>i&1 == 1 {
						spoil(l)
						want = append(want, broken(i+1))
					}
					s.Lowers = append(s.Lowers, api.Branch{Nodes: l})
				}
				b := sample.Image(s)
				mustFind(t, "lower layers", b, want...)
				mustFind(t, "lower layers, and a log", sample.Logged(b, geo.Inode(s.Geo, 0, 4)), append(want, pending)...)
				b[64*geo.Inode(s.Geo, 0, 4)] = 9
				mustFind(t, "lower layers, and an inode", b, append([]api.Finding{find(4, 4, -1)}, want...)...)
			}
		}
	}
}

// P28.1: a log is pending just if something is read of it; its writes are not done.
func TestPending(t *testing.T) {
	b := sample.Image(sample.Full())
	root := geo.Inode(layout, 0, 1)
	mustFind(t, "a log of one", sample.Logged(b, root), pending)
	mustFind(t, "a log of two", sample.Logged(b, root, root), pending)
	mustFind(t, "no sector of the upper layer", sample.Logged(b, geo.Log(layout)))
	mustFind(t, "of the lower layers", sample.Logged(b, root, geo.Inode(layout, 1, 1)))
	mustFind(t, "Empty", sample.Lay(b, geo.Log(layout), journal.Empty()))
	mustFind(t, "garbage", sample.Lay(b, geo.Log(layout), sample.Garbage()))
	c := sample.Logged(b, root)
	c[64*(geo.Log(layout)+1)] ^= 1
	mustFind(t, "another record", c)
	mustFind(t, "none, that says it has", sample.Lay(b, geo.Log(layout), journal.Head(nil)))
}

// P28.1: by Clause, then by Layer, Ino and Slot, the lesser first.
func TestOrder(t *testing.T) {
	var rising []api.Finding
	for _, clause := range []int{math.MinInt, -1, 1, 2, 23, math.MaxInt} {
		for _, layer := range []int{math.MinInt, 0, 1, 3, math.MaxInt} {
			for _, ino := range []int{math.MinInt, 0, 1, 24, math.MaxInt} {
				for _, slot := range []int{math.MinInt, -1, 0, 15, math.MaxInt} {
					rising = append(rising, api.Finding{Clause: clause, Layer: layer, Ino: ino, Slot: slot})
				}
			}
		}
	}
	for i, a := range rising {
		for j, b := range rising {
			if got := inv.Order(a, b); got != cmp.Compare(i, j) {
				t.Fatalf("Order(%v, %v): %d", a, b, got)
			}
		}
	}
	if inv.Order(api.Finding{}, api.Finding{}) != 0 {
		t.Error("Order of nothing")
	}
}

// P28.1: what is there, wherever it stands; what differs in one field alone is not.
func TestHas(t *testing.T) {
	l := []api.Finding{{Clause: 1, Layer: 0, Ino: 4, Slot: 2}, {Clause: 22, Layer: 3, Ino: 0, Slot: -1}, {Clause: 7, Layer: 0, Ino: 5, Slot: -1}}
	before := slices.Clone(l)
	for i, f := range l {
		if !inv.Has(l, f) || !inv.Has(l[i:], f) || inv.Has(l[i+1:], f) || inv.Has(l[:i], f) {
			t.Errorf("Has %v", f)
		}
		for _, d := range append(sample.Far(), -1, 1) {
			for _, other := range []api.Finding{
				{Clause: f.Clause + d, Layer: f.Layer, Ino: f.Ino, Slot: f.Slot},
				{Clause: f.Clause, Layer: f.Layer + d, Ino: f.Ino, Slot: f.Slot},
				{Clause: f.Clause, Layer: f.Layer, Ino: f.Ino + d, Slot: f.Slot},
				{Clause: f.Clause, Layer: f.Layer, Ino: f.Ino, Slot: f.Slot + d},
			} {
				if inv.Has(l, other) {
					t.Errorf("Has %v", other)
				}
			}
		}
	}
	if inv.Has(nil, api.Finding{}) || inv.Has([]api.Finding{}, l[0]) || !inv.Has([]api.Finding{{}}, api.Finding{}) || !slices.Equal(l, before) {
		t.Error("Has of nothing")
	}
}

// rises tells whether a stands ahead of b, by the chapter's words.
func rises(a, b api.Finding) bool {
	switch {
	case a.Clause != b.Clause:
		return a.Clause < b.Clause
	case a.Layer != b.Layer:
		return a.Layer < b.Layer
	case a.Ino != b.Ino:
		return a.Ino < b.Ino
	}
	return a.Slot < b.Slot
}

// wrong is all that is wrong with an image, by the chapter's words: each finding is put where it belongs.
func wrong(b []byte) []api.Finding {
	g, _ := geo.Get(b)
	l, _ := store.Upper(b)
	s, _ := store.Stack(b)
	for _, more := range [][]api.Finding{white.Findings(s), redirect.Findings(s), origin.Findings(s), index.Findings(s), impure.Findings(s), tally.Findings(s), links.Findings(s)} {
		l = append(l, more...)
	}
	for layer := g.Lowers; layer > 0; layer-- {
		if !store.Whole(b, layer) {
			l = append(l, broken(layer))
		}
	}
	if _, ok := journal.Read(b); ok {
		l = append(l, pending)
	}
	var ordered []api.Finding
	for _, f := range l {
		i := 0
		for i < len(ordered) && rises(ordered[i], f) {
			i++
		}
		ordered = slices.Insert(ordered, i, f)
	}
	return ordered
}

// P28.1, P28.2: many images, held against a second reading of the words; no finding is told twice, and each is of a clause, and of a layer that there is.
func TestMany(t *testing.T) {
	r := rand.New(rand.NewSource(1))
	var met [api.ClausePending + 1]int
	for range 4000 {
		b := sample.Wrong(r.Intn)
		g, _ := geo.Get(b)
		l := wrong(b)
		mustFind(t, "any image", b, l...)
		for i, f := range l {
			if i > 0 && inv.Order(l[i-1], f) != -1 || f.Clause < 1 || f.Clause > api.ClausePending {
				t.Fatalf("%v in %v", f, l)
			}
			if lower := f.Clause == api.ClauseLower; lower != (f.Layer > 0) || f.Layer > g.Lowers || f.Ino < 0 || f.Ino > g.Inodes || f.Slot < -1 || f.Slot > 15 {
				t.Fatalf("%v in %v", f, l)
			}
			met[f.Clause]++
			if !inv.Has(l, f) {
				t.Fatalf("Has %v", f)
			}
		}
		if len(l) == 0 {
			met[0]++
		}
	}
	for clause, n := range met {
		if n < 20 {
			t.Errorf("clause %d is met %d times", clause, n)
		}
	}
}

// P0, P28.2: upper layers and logs of any bytes: nothing is told twice.
func TestAnyBytes(t *testing.T) {
	r := rand.New(rand.NewSource(2))
	for range 300 {
		g := api.Geo{Lowers: 1 + r.Intn(3), Inodes: 4 + r.Intn(21), Blocks: 1 + r.Intn(60), Log: 1 + r.Intn(9)}
		b := sample.Image(api.Stack{Geo: g, Lowers: make([]api.Branch, g.Lowers)})
		r.Read(b[64*(1+r.Intn(geo.Bitmap(g, 0))):])
		l, e := inv.All(b)
		if e != api.OK || len(l) == 0 || !slices.Equal(l, wrong(b)) || inv.Clean(b) {
			t.Fatal(l, e)
		}
		if n := len(l); len(slices.Compact(l)) != n {
			t.Errorf("told twice: %v", l)
		}
	}
}

// The answers share no memory with the image, nor with other answers.
func TestAnswersShareNothing(t *testing.T) {
	l := sample.Harms()
	b := sample.Harmed(l[5], l[20], l[22], l[23])
	want := []api.Finding{l[5].Want[0], l[20].Want[0], l[22].Want[0], l[23].Want[0]}
	first, _ := inv.All(b)
	again, _ := inv.All(b)
	clear(first[:cap(first)])
	clear(b)
	if !slices.Equal(again, want) {
		t.Errorf("All: %v", again)
	}
}
