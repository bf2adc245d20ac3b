package white_test

import (
	"math"
	"math/rand"
	"reflect"
	"slices"
	"strings"
	"testing"

	"craquelure/api"
	"craquelure/lower"
	"craquelure/merge"
	"craquelure/sample"
	"craquelure/shown"
	"craquelure/view"
	"craquelure/walk"
	"craquelure/white"
)

const root = api.Root

// Inodes of lower layers.
const (
	lowFile, lowLink, lowWhite = 2, 3, 4
	lowDir, lowSub, lowFree    = 5, 6, 7
	lowLast                    = 8
)

// Inodes of upper layers: others than those of lower ones, so that none is taken for one of these.
const (
	file, link, hider, other = 11, 12, 13, 14
	dir, sub, opaqueDir      = 15, 16, 17
	free, last               = 18, 19
	none                     = 99
)

func opaque() api.Attr {
	return api.Attr{Has: api.HasOpaque, Opaque: api.Mark}
}

func redirected(to string) api.Attr {
	return api.Attr{Has: api.HasRedirect, Redirect: to}
}

func named(name string, ino int) api.Entry {
	return api.Entry{Ino: ino, Name: name}
}

// layer is a layer with nodes of these kinds, and a root with these entries.
func layer(nodes int, kinds map[int]int, entries []api.Entry) api.Branch {
	l := make([]api.Node, nodes)
	for ino, kind := range kinds {
		l[ino-1] = api.Node{Kind: kind, Nlink: 1}
	}
	l[root-1] = api.Node{Kind: api.Dir, Nlink: 2, Entries: sample.Slotted(entries)}
	return api.Branch{Nodes: l}
}

func above(entries ...api.Entry) api.Branch {
	b := layer(last, map[int]int{api.Work: api.Dir, api.Index: api.Dir, file: api.File, link: api.Link, hider: api.White, other: api.White, dir: api.Dir, sub: api.Dir, opaqueDir: api.Dir, last: api.Dir}, entries)
	b.Nodes[opaqueDir-1].Attr = opaque()
	return b
}

func below(entries ...api.Entry) api.Branch {
	return layer(lowLast, map[int]int{lowFile: api.File, lowLink: api.Link, lowWhite: api.White, lowDir: api.Dir, lowSub: api.Dir, lowLast: api.Dir}, entries)
}

// fill gives a directory of a layer these entries.
func fill(b api.Branch, ino int, entries ...api.Entry) {
	b.Nodes[ino-1].Entries = sample.Slotted(entries)
}

func stack(up api.Branch, lowers ...api.Branch) api.Stack {
	return api.Stack{Geo: api.Geo{Lowers: len(lowers), Inodes: last, Blocks: 9, Log: 5}, Upper: up, Lowers: lowers}
}

// seen is a View of that upper directory, over Places by their Layers and Inos.
func seen(upper int, l ...int) api.View {
	v := api.View{Upper: upper}
	for i := 0; i < len(l); i += 2 {
		v.Lower = append(v.Lower, api.Place{Layer: l[i], Ino: l[i+1]})
	}
	return v
}

func mustHide(t *testing.T, why string, s api.Stack, v api.View, want bool, names ...string) {
	t.Helper()
	for _, x := range names {
		if got := white.Hides(s, v, x); got != want {
			t.Errorf("%s: Hides(%v, %q): %v", why, v, x, got)
		}
	}
}

func mustName(t *testing.T, why string, s api.Stack, v api.View, want ...string) {
	t.Helper()
	if got := white.Names(s, v); !slices.Equal(got, want) {
		t.Errorf("%s: Names(%v): %q, not %q", why, v, got, want)
	}
}

// mustFind wants findings of these inodes and slots, in turn.
func mustFind(t *testing.T, why string, s api.Stack, l ...int) {
	t.Helper()
	var want []api.Finding
	for i := 0; i < len(l); i += 2 {
		want = append(want, api.Finding{Clause: api.ClauseWhite, Layer: 0, Ino: l[i], Slot: l[i+1]})
	}
	if got := white.Findings(s); !slices.Equal(got, want) {
		t.Errorf("%s: Findings: %v, not %v", why, got, want)
	}
}

// hills is a stack of two lower layers, of which the upper one hides some of the lower one's names.
func hills(up ...api.Entry) api.Stack {
	top := below(named("d", lowDir), named("f", lowFile), named("l", lowLink), named("w", lowWhite), named("v", lowWhite), named("n", lowFree), named("m", none), named("k", lowWhite), named("k", lowFile), named("e", lowFree), named("e", lowFile))
	bottom := below(named("g", lowFile), named("w", lowFile), named("n", lowLink), named("m", lowSub), named("k", lowFile), named("d", lowDir))
	fill(top, lowDir, named("x", lowFile), named("s", lowSub), named("w", lowWhite))
	fill(bottom, lowDir, named("y", lowLink), named("w", lowDir))
	return stack(above(up...), top, bottom)
}

// P20.1: what is told beneath as a Dir, a File, a Link, and what is not: a White, what that hides, and what is not there.
func TestHides(t *testing.T) {
	s := hills()
	r := view.Root(s)
	mustHide(t, "told", s, r, true, "d", "f", "l", "g", "n", "m", "e")
	mustHide(t, "not told", s, r, false, "w", "v", "k", "z", "x", "s", "y", "", "/", "/d", "d/", "d/x", ".", "..", "D", "\xff", strings.Repeat("d", 100))
	v := seen(dir, 1, lowDir, 2, lowDir)
	mustHide(t, "told in a directory", s, v, true, "x", "s", "y")
	mustHide(t, "not told in a directory", s, v, false, "w", "d", "f", "z")
	mustHide(t, "the second layer alone", s, seen(root, 2, root), true, "w", "g", "k", "d")
	mustHide(t, "the second layer alone", s, seen(root, 2, root), false, "f", "l", "e")
	mustHide(t, "the second layer first", s, seen(root, 2, root, 1, root), true, "w", "k", "f", "g")
	mustHide(t, "no Lower", s, seen(root), false, "d", "f", "l", "g", "w", "z")
	mustHide(t, "no View", s, api.View{}, false, "d", "f", "l", "g", "w", "z")
	mustHide(t, "no lower layers", stack(above(named("d", hider))), r, false, "d", "f")
	mustHide(t, "nothing", api.Stack{}, r, false, "d", "f", "")
}

// P20.1: Upper is not asked, nor what the upper layer has by that name.
func TestHidesAsksNoUpper(t *testing.T) {
	s := hills(named("d", hider), named("f", file), named("z", hider), named("q", file), named("l", dir))
	s.Upper.Nodes[root-1].Attr = opaque()
	for _, upper := range append(sample.Far(), 0, -1, root, file, hider, dir, opaqueDir, free, none) {
		v := seen(upper, 1, root, 2, root)
		mustHide(t, "any Upper", s, v, true, "d", "f", "l", "g")
		mustHide(t, "any Upper", s, v, false, "z", "q", "w")
	}
}

// P20.1: Places of no Dir, and ones that are not there, have nothing; what stands behind them is asked.
func TestHidesWrong(t *testing.T) {
	s := hills()
	for _, n := range append(sample.Far(), 0, -1, lowFile, lowLink, lowWhite, lowFree, none) {
		mustHide(t, "no Dir", s, seen(root, 1, n), false, "d", "f", "z")
		mustHide(t, "no Dir, and a Dir", s, seen(root, 1, n, 1, root), true, "d", "f")
	}
	for _, n := range append(sample.Far(), 0, -1, 3, 4) {
		mustHide(t, "no layer", s, seen(root, n, root), false, "d", "f", "z")
		mustHide(t, "no layer, and one", s, seen(root, n, root, 2, root), true, "d", "w")
	}
	for _, kind := range append(sample.Far(), -1, 5) {
		low := below(named("d", lowDir))
		low.Nodes[lowDir-1].Kind = kind
		mustHide(t, "a kind that there is not", stack(above(), low), seen(root, 1, root), false, "d")
	}
	low := below(named("", lowFile), named("..", lowDir))
	mustHide(t, "names that are not right", stack(above(), low), seen(root, 1, root), true, "", "..")
}

// P20.1: the names rise, and stand once each, whatever else has them, and whether anything is hidden or not.
func TestNames(t *testing.T) {
	s := hills(named("q", hider), named("d", other), named("f", file), named("b", hider), named("q", other), named("a", dir), named("w", hider), named("q", hider), named("l", link), named("n", free), named("m", none))
	mustName(t, "the root", s, view.Root(s), "b", "d", "q", "w")
	mustName(t, "Lower is not asked", s, seen(root), "b", "d", "q", "w")
	mustName(t, "without Whites", s, seen(dir, 1, root))
	fill(s.Upper, dir, named("z", hider), named("y", hider))
	mustName(t, "another directory", s, seen(dir, 1, lowDir), "y", "z")
	fill(s.Upper, dir, named("x", file), named("x", hider), named("y", dir), named("y", other), named("z", hider), named("z", file))
	mustName(t, "behind others of the name, and ahead", s, seen(dir), "x", "y", "z")
	fill(s.Upper, opaqueDir, named("0", hider), named("a", hider), named("_", hider), named(".a", hider), named("-", hider), named("Z", hider), named("", hider), named("\xff", hider))
	mustName(t, "rising byte by byte", s, seen(opaqueDir), "", "-", ".a", "0", "Z", "_", "a", "\xff")
}

// P20.1: of a View whose Upper is no Dir the names are told too, of whatever kind it is.
func TestNamesOfAnyUpper(t *testing.T) {
	s := hills()
	for _, upper := range []int{file, link, hider, free, dir, root} {
		mustName(t, "an Upper without entries", s, seen(upper, 1, root))
		fill(s.Upper, upper, named("q", hider), named("f", file), named("b", other), named("q", other), named("n", none))
		mustName(t, "any Upper", s, seen(upper, 1, root), "b", "q")
	}
	for _, kind := range append(sample.Far(), api.Free, api.Dir, api.File, api.Link, api.White, -1, 5) {
		s.Upper.Nodes[root-1].Kind = kind
		mustName(t, "any kind", s, seen(root, 1, root), "b", "q")
	}
	alone := api.Stack{Upper: api.Branch{Nodes: []api.Node{{Entries: []api.Entry{{Ino: 4, Name: "2"}}}, {}, {}, {Kind: api.White}}}}
	mustName(t, "a free one with one entry", alone, seen(1), "2")
	itself := api.Stack{Upper: api.Branch{Nodes: []api.Node{{Kind: api.White, Entries: []api.Entry{{Ino: 1, Name: "2"}}}}}}
	mustName(t, "a White that names itself", itself, seen(1), "2")
}

// P20.2: what is no Dir is none of view.Tree, so that nothing is found of its entries.
func TestFindingsOfAnyUpper(t *testing.T) {
	s := hills(named("f", file), named("l", link), named("d", hider), named("n", free))
	for _, ino := range []int{file, link, hider, free} {
		fill(s.Upper, ino, named("z", hider))
	}
	mustFind(t, "entries of no Dir", s)
}

// P20.1: of a View whose Upper is 0, or is not there, and of entries whose nodes are no Whites.
func TestNamesWrong(t *testing.T) {
	s := hills(named("q", hider))
	for i := range s.Upper.Nodes {
		s.Upper.Nodes[i].Entries = sample.Slotted([]api.Entry{named("q", hider)})
	}
	for _, upper := range append(sample.Far(), 0, -1, last+1, none) {
		mustName(t, "no Upper", s, seen(upper, 1, root))
	}
	s = hills()
	for _, ino := range append(sample.Far(), 0, -1, last+1) {
		s.Upper.Nodes[root-1].Entries = append(s.Upper.Nodes[root-1].Entries, named("q", ino))
	}
	mustName(t, "inodes that are not there", s, seen(root))
	for _, kind := range append(sample.Far(), api.Free, api.Dir, api.File, api.Link, -1, 5) {
		s := hills(named("q", hider))
		s.Upper.Nodes[hider-1].Kind = kind
		mustName(t, "of other kinds", s, seen(root))
	}
	mustName(t, "in no stack", api.Stack{}, seen(root))
	low := stack(above(), below(named("w", lowWhite)))
	mustName(t, "lower Whites", low, seen(root, 1, root))
	mustName(t, "lower Whites", low, seen(0, 1, root))
}

// P20.2: a White over nothing, over something, and over what a White of a lower layer hides.
func TestFindings(t *testing.T) {
	mustFind(t, "over nothing", hills(named("z", hider)), root, 2)
	mustFind(t, "over all that is told", hills(named("d", hider), named("f", hider), named("l", hider), named("g", other), named("n", hider), named("m", hider), named("e", other)))
	mustFind(t, "over what is hidden", hills(named("w", hider), named("v", hider), named("k", other)), root, 2, root, 3, root, 4)
	mustFind(t, "without Whites", hills(named("z", file), named("y", dir), named("x", link), named("n", free), named("q", none)))
	mustFind(t, "without entries", hills())
	mustFind(t, "some of many", hills(named("z", hider), named("d", hider), named("a", file), named("b", other), named("w", link), named("k", hider)), root, 2, root, 5, root, 7)
	mustFind(t, "without lower layers", stack(above(named("d", hider))), root, 2)
	mustFind(t, "lower roots without entries", stack(above(named("d", hider)), below(), below()), root, 2)
	mustFind(t, "lower layers without nodes", stack(above(named("d", hider)), api.Branch{}), root, 2)
	mustFind(t, "nothing", api.Stack{})
	mustFind(t, "lower Whites", stack(above(), below(named("z", lowWhite))))
}

// P20.2: directory by directory as view.Tree has them, and their entries as they stand, whatever their slots.
func TestFindingsOrder(t *testing.T) {
	s := hills(named("z", hider), named("d", dir), named("q", sub), named("a", other))
	fill(s.Upper, dir, named("z", hider), named("x", hider), named("s", last), named("a", hider))
	fill(s.Upper, sub, named("x", other))
	fill(s.Upper, last, named("z", other))
	mustFind(t, "by the tree", s, root, 2, root, 5, dir, 2, dir, 5, sub, 2, last, 2)
	s.Upper.Nodes[root-1].Entries = []api.Entry{{Slot: 9, Ino: sub, Name: "q"}, {Slot: 8, Ino: hider, Name: "z"}, {Slot: 0, Ino: dir, Name: "d"}, {Slot: 15, Ino: other, Name: "a"}, {Slot: 3, Ino: hider, Name: "b"}}
	mustFind(t, "by where they stand", s, root, 8, root, 15, root, 3, sub, 2, dir, 2, dir, 5, last, 2)
	s.Upper.Nodes[root-1].Entries = []api.Entry{{Slot: -1, Ino: hider, Name: "z"}, {Slot: math.MaxInt, Ino: hider, Name: "y"}, {Slot: 16, Ino: hider, Name: "x"}, {Slot: -1, Ino: other, Name: "q"}}
	mustFind(t, "by slots that there are not", s, root, -1, root, math.MaxInt, root, 16, root, -1)
}

// P20.2: each directory has its own View: opaque, by a redirect, by its name, of upper ones alone.
func TestFindingsViews(t *testing.T) {
	s := hills(named("d", dir), named("f", hider))
	fill(s.Upper, dir, named("x", hider), named("y", other), named("d", hider), named("f", hider))
	mustFind(t, "by its name", s, dir, 4, dir, 5)
	s.Upper.Nodes[dir-1].Attr = opaque()
	mustFind(t, "opaque", s, dir, 2, dir, 3, dir, 4, dir, 5)
	s.Upper.Nodes[dir-1].Attr = redirected("/")
	mustFind(t, "redirected to the root", s, dir, 2, dir, 3)
	s.Upper.Nodes[dir-1].Attr = redirected("m")
	mustFind(t, "redirected to an empty one", s, dir, 2, dir, 3, dir, 4, dir, 5)
	s.Upper.Nodes[dir-1].Attr = redirected("//")
	mustFind(t, "redirected to nothing", s, dir, 2, dir, 3, dir, 4, dir, 5)
	s.Upper.Nodes[dir-1].Attr = api.Attr{Has: api.HasOpaque, Opaque: 1}
	mustFind(t, "a mark that is none", s, dir, 4, dir, 5)
	s.Upper.Nodes[root-1].Attr = opaque()
	mustFind(t, "an opaque root", s, root, 3, dir, 2, dir, 3, dir, 4, dir, 5)
	s.Upper.Nodes[dir-1].Attr = redirected("/d")
	mustFind(t, "an opaque root, and a redirect", s, root, 3, dir, 4, dir, 5)
	s = hills(named("q", opaqueDir))
	fill(s.Upper, opaqueDir, named("x", hider), named("d", last))
	fill(s.Upper, last, named("x", hider))
	mustFind(t, "upper ones alone", s, opaqueDir, 2, last, 2)
}

// P20.2: two Whites of one name are each asked, as is one behind, or ahead of, another entry of its name.
func TestFindingsOfOneName(t *testing.T) {
	mustFind(t, "two over nothing", hills(named("z", hider), named("z", other)), root, 2, root, 3)
	mustFind(t, "the same one, twice", hills(named("z", hider), named("z", hider)), root, 2, root, 3)
	mustFind(t, "two over something", hills(named("d", hider), named("d", other), named("f", hider), named("f", hider)))
	mustFind(t, "behind a File, and ahead", hills(named("z", file), named("z", hider), named("y", hider), named("y", file)), root, 3, root, 4)
	mustFind(t, "over something, behind a File", hills(named("d", file), named("d", hider)))
}

// P20.2: a White that is named in two directories, over something here, and over nothing there.
func TestFindingsOfOneWhite(t *testing.T) {
	s := hills(named("f", hider), named("d", dir), named("q", sub))
	fill(s.Upper, dir, named("f", hider))
	fill(s.Upper, sub, named("f", hider))
	mustFind(t, "in three directories", s, dir, 2, sub, 2)
	fill(s.Upper, dir, named("x", hider), named("q", hider))
	mustFind(t, "by several names", s, dir, 3, sub, 2)
}

// P20.2: a directory is asked by the View of the name that it is come to by first, once.
func TestFindingsTwice(t *testing.T) {
	s := hills(named("d", dir), named("q", dir), named("self", root))
	fill(s.Upper, dir, named("x", hider), named("z", hider), named("self", dir), named("up", root))
	mustFind(t, "first over something", s, dir, 3)
	s = hills(named("q", dir), named("d", dir))
	fill(s.Upper, dir, named("x", hider), named("z", hider))
	mustFind(t, "first over nothing", s, dir, 2, dir, 3)
	s = hills(named("q", sub), named("d", dir))
	fill(s.Upper, sub, named("d", dir))
	fill(s.Upper, dir, named("x", hider))
	mustFind(t, "first where it stands higher", s)
	s = hills(named("w", hider), named("w", dir))
	fill(s.Upper, dir, named("x", hider))
	mustFind(t, "behind a White of its name", s, root, 2, dir, 2)
}

// P20.2: where the root does not lead, and without a root, nothing is found.
func TestFindingsElsewhere(t *testing.T) {
	s := hills(named("f", file))
	for _, ino := range []int{api.Work, api.Index, dir, opaqueDir, file, free} {
		fill(s.Upper, ino, named("z", hider))
	}
	mustFind(t, "elsewhere", s)
	for _, kind := range append(sample.Far(), api.Free, api.File, api.Link, api.White, -1, 5) {
		s := hills(named("z", hider), named("d", dir))
		fill(s.Upper, dir, named("z", hider))
		s.Upper.Nodes[root-1].Kind = kind
		mustFind(t, "no root", s)
		s = hills(named("d", dir), named("z", hider))
		fill(s.Upper, dir, named("z", other))
		s.Upper.Nodes[dir-1].Kind = kind
		mustFind(t, "no Dir", s, root, 3)
		if kind == api.White {
			continue
		}
		s = hills(named("z", hider), named("y", other))
		s.Upper.Nodes[hider-1].Kind = kind
		mustFind(t, "no White", s, root, 3)
	}
	s = hills()
	for _, ino := range append(sample.Far(), 0, -1, last+1, none) {
		s.Upper.Nodes[root-1].Entries = append(s.Upper.Nodes[root-1].Entries, named("z", ino))
	}
	mustFind(t, "inodes that are not there", s)
	mustFind(t, "no upper nodes", stack(api.Branch{}, below()))
}

func letters() []string {
	return []string{"a", "b", "c", "d", "e"}
}

// someEntries is entries with slots of their own; of one name there are several, just if twice says so.
func someEntries(r *rand.Rand, inodes int, twice bool) []api.Entry {
	slots, names := r.Perm(16), r.Perm(5)
	var l []api.Entry
	for i := range max(r.Intn(6), r.Intn(6)) {
		if twice {
			names[i%5] = r.Intn(5)
		}
		l = append(l, api.Entry{Slot: slots[i], Ino: r.Intn(inodes+2) + r.Intn(2), Name: letters()[names[i%5]]})
	}
	return l
}

func someAttr(r *rand.Rand) api.Attr {
	switch r.Intn(6) {
	case 0:
		to := []string{"/a", "/b", "/a/b", "/", "a", "b", "c", "/d/a", "", "//"}
		return redirected(to[r.Intn(len(to))])
	case 1:
		return api.Attr{Has: api.HasOpaque, Opaque: api.Mark - r.Intn(4)/3}
	}
	return api.Attr{}
}

func someBranch(r *rand.Rand, twice bool, kinds ...int) api.Branch {
	l := make([]api.Node, 2+r.Intn(9))
	for i := range l {
		l[i] = api.Node{Kind: kinds[r.Intn(len(kinds))], Attr: someAttr(r), Entries: someEntries(r, len(l), twice)}
	}
	l[0].Kind = []int{1, 1, 1, 1, 1, 1, 1, 2}[r.Intn(8)]
	return api.Branch{Nodes: l}
}

// some is a stack of any layers, of few names and nodes, so that they often meet.
func some(r *rand.Rand, twice bool) api.Stack {
	s := api.Stack{Upper: someBranch(r, twice, 0, 1, 1, 1, 1, 2, 3, 4, 4, 4, 4, 5)}
	for range r.Intn(4) {
		s.Lowers = append(s.Lowers, walk.Prune(someBranch(r, twice, 0, 1, 1, 1, 1, 2, 2, 2, 3, 4, 5), root))
	}
	return s
}

func someView(r *rand.Rand, s api.Stack) api.View {
	if _, views := view.Tree(s); len(views) > 0 && r.Intn(4) != 0 {
		return views[r.Intn(len(views))]
	}
	v := api.View{Upper: r.Intn(12) - 1}
	for range r.Intn(5) {
		v.Lower = append(v.Lower, api.Place{Layer: r.Intn(len(s.Lowers) + 2), Ino: r.Intn(12)})
	}
	return v
}

// node is an upper node by a second reading of the chapter, as all that follows here.
func node(s api.Stack, ino int) api.Node {
	for i, n := range s.Upper.Nodes {
		if i+1 == ino {
			return n
		}
	}
	return api.Node{}
}

func modelNames(s api.Stack, v api.View) []string {
	set := map[string]int{}
	for _, e := range node(s, v.Upper).Entries {
		if node(s, e.Ino).Kind == api.White {
			set[e.Name]++
		}
	}
	var l []string
	for _, x := range letters() {
		if set[x] > 0 {
			l = append(l, x)
		}
	}
	return l
}

func modelFindings(s api.Stack) []api.Finding {
	var l []api.Finding
	ways, views := view.Tree(s)
	for i, w := range ways {
		beneath := lower.Names(s, views[i].Lower)
		for _, e := range node(s, w.Ino).Entries {
			if node(s, e.Ino).Kind == api.White && !slices.Contains(beneath, e.Name) {
				l = append(l, api.Finding{Clause: 15, Layer: 0, Ino: w.Ino, Slot: e.Slot})
			}
		}
	}
	return l
}

// P20.1, P20.2: many stacks, held against the model.
func TestMany(t *testing.T) {
	r := rand.New(rand.NewSource(1))
	met := map[string]int{}
	for range 20000 {
		s := some(r, true)
		want := modelFindings(s)
		if got := white.Findings(s); !slices.Equal(got, want) {
			t.Fatalf("Findings(%v): %v, not %v", s, got, want)
		}
		v := someView(r, s)
		names := modelNames(s, v)
		mustName(t, "any stack", s, v, names...)
		beneath := lower.Names(s, v.Lower)
		for _, x := range append(letters(), "f", "") {
			mustHide(t, "any stack", s, v, slices.Contains(beneath, x), x)
			if slices.Contains(names, x) && slices.Contains(beneath, x) {
				met["hides"]++
			}
		}
		if len(want) > 1 {
			met["found"]++
		}
		if len(names) > 1 {
			met["named"]++
		}
		if t.Failed() {
			t.Fatal(s)
		}
	}
	for _, x := range []string{"hides", "found", "named"} {
		if met[x] < 1000 {
			t.Fatal(met)
		}
	}
}

// without is the stack without the entries that the findings tell, and with all others.
func without(s api.Stack, l []api.Finding) api.Stack {
	nodes := slices.Clone(s.Upper.Nodes)
	for i := range nodes {
		nodes[i].Entries = slices.DeleteFunc(slices.Clone(nodes[i].Entries), func(e api.Entry) bool {
			return slices.Contains(l, api.Finding{Clause: api.ClauseWhite, Ino: i + 1, Slot: e.Slot})
		})
	}
	s.Upper = api.Branch{Nodes: nodes}
	return s
}

// P20.3: the same is shown without what is found, of directories whose names are unlike, as those that are read have them.
func TestWithoutFindings(t *testing.T) {
	r := rand.New(rand.NewSource(2))
	found := 0
	for range 10000 {
		s := some(r, false)
		l := white.Findings(s)
		left := without(s, l)
		found += len(l)
		if again := white.Findings(left); len(again) != 0 {
			t.Errorf("%v: %v is found behind it", s, again)
		}
		all := shown.All(s)
		if got := shown.All(left); !slices.Equal(got, all) {
			t.Errorf("%v: %v is shown, not %v", s, got, all)
		}
		if len(walk.Twice(s.Upper, root)) == 0 {
			mustShowSame(t, s, left, append(shown.Paths(all), "/"))
		}
		if t.Failed() {
			t.Fatal(s)
		}
	}
	if found < 3000 {
		t.Fatal(found)
	}
}

// mustShowSame wants that the paths, and what might stand in them, show the same in a and b.
func mustShowSame(t *testing.T, a, b api.Stack, paths []string) {
	t.Helper()
	for _, p := range paths {
		for _, x := range append(letters(), "") {
			to := strings.TrimSuffix(strings.TrimSuffix(p, "/")+"/"+x, "/")
			if to == "" {
				to = "/"
			}
			k, here := merge.Of(a, to)
			l, there := merge.Of(b, to)
			if here != there || !merge.Same(k, l) {
				t.Errorf("%q: %v, %v, not %v, %v", to, l, there, k, here)
			}
		}
	}
}

// P20.2, P20.3: what hides something is not found: without it other things are shown.
func TestWithoutOthers(t *testing.T) {
	r := rand.New(rand.NewSource(3))
	others := 0
	for range 5000 {
		s := some(r, false)
		l := white.Findings(s)
		ways, _ := view.Tree(s)
		for _, w := range ways {
			for _, e := range node(s, w.Ino).Entries {
				f := api.Finding{Clause: api.ClauseWhite, Ino: w.Ino, Slot: e.Slot}
				if node(s, e.Ino).Kind != api.White || slices.Contains(l, f) {
					continue
				}
				others++
				if slices.Equal(shown.All(s), shown.All(without(s, []api.Finding{f}))) {
					t.Fatalf("%v: %v should be found", s, f)
				}
			}
		}
	}
	if others < 500 {
		t.Fatal(others)
	}
}

// P20.1, P20.2: the layout is not asked.
func TestAsksNoLayout(t *testing.T) {
	for _, g := range []api.Geo{{}, {Lowers: -1}, {Lowers: 1, Inodes: 1}, {Lowers: math.MaxInt, Inodes: math.MaxInt}} {
		s := stack(above(named("z", hider), named("f", hider)), below(), below(), below(), below(), below(named("f", lowFile)))
		s.Geo = g
		mustFind(t, "another layout", s, root, 2)
		mustName(t, "another layout", s, view.Root(s), "f", "z")
		mustHide(t, "another layout", s, view.Root(s), true, "f")
	}
}

// shared is a stack with findings in several directories.
func shared() (api.Stack, api.View) {
	s := hills(named("d", dir), named("z", hider), named("f", other), named("y", hider))
	fill(s.Upper, dir, named("z", hider))
	return s, view.Root(s)
}

// What is handed in stays as it is, and answers share no memory with it, nor with one another.
func TestAnswersShareNothing(t *testing.T) {
	s, v := shared()
	found, names := white.Findings(s), white.Names(s, v)
	wantFound, wantNames := slices.Clone(found), slices.Clone(names)
	if len(found) != 3 || len(names) != 3 {
		t.Fatal(found, names)
	}
	foundAgain, namesAgain := white.Findings(s), white.Names(s, v)
	clear(found[:cap(found)])
	clear(names[:cap(names)])
	white.Hides(s, v, "f")
	again, w := shared()
	if !reflect.DeepEqual(s, again) || !reflect.DeepEqual(v, w) {
		t.Error("what was handed in is changed")
	}
	for i := range s.Upper.Nodes {
		clear(s.Upper.Nodes[i].Entries)
	}
	clear(v.Lower)
	if !slices.Equal(foundAgain, wantFound) || !slices.Equal(namesAgain, wantNames) {
		t.Errorf("%v, %q: not %v, %q", foundAgain, namesAgain, wantFound, wantNames)
	}
}
