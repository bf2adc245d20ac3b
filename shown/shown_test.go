package shown_test

import (
	"math"
	"math/rand"
	"reflect"
	"slices"
	"strings"
	"testing"

	"craquelure/api"
	"craquelure/merge"
	"craquelure/path"
	"craquelure/sample"
	"craquelure/shown"
	"craquelure/walk"
)

const root = api.Root

// Inodes of lower layers.
const (
	lowFile, lowLink, lowWhite = 2, 3, 4
	lowDir, lowSub, lowOpaque  = 5, 6, 7
	lowFree, lowLast           = 8, 9
)

// Inodes of upper layers: others than those of lower ones, so that none is taken for one of these.
const (
	file, link, white, opaqueDir = 11, 12, 13, 14
	dir, sub, deep, free, last   = 15, 16, 17, 18, 19
	none                         = 99
)

func opaque() api.Attr {
	return api.Attr{Has: api.HasOpaque, Opaque: api.Mark}
}

func redirected(to string) api.Attr {
	return api.Attr{Has: api.HasRedirect, Redirect: to}
}

func named(name string, ino int) api.Entry {
	return api.Entry{Ino: ino, Name: name}
}

// slotted is the entries, each with a slot of its own.
func slotted(entries []api.Entry) []api.Entry {
	l := slices.Clone(entries)
	for i := range l {
		l[i].Slot = i
	}
	return l
}

// layer is a layer with nodes of these kinds, and a root with these entries.
func layer(nodes int, kinds map[int]int, entries []api.Entry) api.Branch {
	l := make([]api.Node, nodes)
	for ino, kind := range kinds {
		l[ino-1] = api.Node{Kind: kind, Nlink: 1}
	}
	l[root-1] = api.Node{Kind: api.Dir, Nlink: 2, Entries: slotted(entries)}
	return api.Branch{Nodes: l}
}

func above(entries ...api.Entry) api.Branch {
	b := layer(last, map[int]int{api.Work: api.Dir, api.Index: api.Dir, file: api.File, link: api.Link, white: api.White, opaqueDir: api.Dir, dir: api.Dir, sub: api.Dir, deep: api.Dir, last: api.Dir}, entries)
	b.Nodes[opaqueDir-1].Attr = opaque()
	return b
}

func below(entries ...api.Entry) api.Branch {
	b := layer(lowLast, map[int]int{lowFile: api.File, lowLink: api.Link, lowWhite: api.White, lowDir: api.Dir, lowSub: api.Dir, lowOpaque: api.Dir, lowLast: api.Dir}, entries)
	b.Nodes[lowOpaque-1].Attr = opaque()
	return b
}

// fill gives a directory of a layer these entries.
func fill(b api.Branch, ino int, entries ...api.Entry) {
	b.Nodes[ino-1].Entries = slotted(entries)
}

func stack(up api.Branch, lowers ...api.Branch) api.Stack {
	return api.Stack{Geo: api.Geo{Lowers: len(lowers), Inodes: last, Blocks: 9, Log: 5}, Upper: up, Lowers: lowers}
}

func at(path string, kind, layer, ino int) api.Shown {
	return api.Shown{Path: path, Kind: kind, Place: api.Place{Layer: layer, Ino: ino}}
}

func mustAll(t *testing.T, why string, s api.Stack, want ...api.Shown) {
	t.Helper()
	if got := shown.All(s); !slices.Equal(got, want) {
		t.Errorf("%s: All: %v, not %v", why, got, want)
	}
}

func mustPaths(t *testing.T, why string, s api.Stack, want ...string) {
	t.Helper()
	if got := shown.Paths(shown.All(s)); !slices.Equal(got, want) {
		t.Errorf("%s: All: %q, not %q", why, got, want)
	}
}

func mustCount(t *testing.T, why string, s api.Stack, p api.Place, want int) {
	t.Helper()
	if got := shown.Count(s, p); got != want {
		t.Errorf("%s: Count(%v): %d, not %d", why, p, got, want)
	}
}

// P19.1: upper and lower ones, with their paths, kinds and places.
func TestAll(t *testing.T) {
	top := below(named("f", lowFile), named("d", lowDir), named("e", lowLast))
	fill(top, lowDir, named("x", lowLink), named("s", lowSub))
	fill(top, lowSub, named("y", lowFile))
	bottom := below(named("d", lowDir), named("g", lowLink))
	fill(bottom, lowDir, named("s", lowSub), named("z", lowFile))
	fill(bottom, lowSub, named("w", lowLink))
	up := above(named("u", dir), named("d", sub), named("l", link))
	fill(up, sub, named("a", file))
	fill(up, dir, named("b", deep))
	fill(up, deep, named("c", link))
	mustAll(t, "whole", stack(up, top, bottom),
		at("/d", api.Dir, 0, sub), at("/e", api.Dir, 1, lowLast), at("/f", api.File, 1, lowFile), at("/g", api.Link, 2, lowLink), at("/l", api.Link, 0, link), at("/u", api.Dir, 0, dir),
		at("/d/a", api.File, 0, file), at("/d/s", api.Dir, 1, lowSub), at("/d/x", api.Link, 1, lowLink), at("/d/z", api.File, 2, lowFile), at("/u/b", api.Dir, 0, deep),
		at("/d/s/w", api.Link, 2, lowLink), at("/d/s/y", api.File, 1, lowFile), at("/u/b/c", api.Link, 0, link))
}

// P19.1: without entries, an upper root, lower layers, or all of these; the root is never told.
func TestAllOfNothing(t *testing.T) {
	mustAll(t, "no entries", stack(above(), below(), below()))
	mustAll(t, "no lower layers, and no entries", stack(above()))
	mustAll(t, "nothing", api.Stack{})
	mustAll(t, "lower layers without nodes", stack(api.Branch{}, api.Branch{}, api.Branch{}))
	mustAll(t, "no lower layers", stack(above(named("f", file), named("d", dir))), at("/d", api.Dir, 0, dir), at("/f", api.File, 0, file))
	for _, kind := range append(sample.Far(), api.Free, api.File, api.Link, api.White, -1, 5) {
		up := above(named("u", file), named("d", dir), named("e", dir))
		up.Nodes[root-1].Kind = kind
		up.Nodes[root-1].Attr = opaque()
		mustAll(t, "no upper root", stack(up, below(named("e", lowDir), named("f", lowFile))), at("/e", api.Dir, 1, lowDir), at("/f", api.File, 1, lowFile))
		mustAll(t, "no upper root, nor lower layers", stack(up))
		mustAll(t, "no upper root, and lower ones without entries", stack(up, below()))
		low := below(named("x", lowFile))
		low.Nodes[root-1].Kind = kind
		mustAll(t, "no lower root", stack(above(named("f", file)), low, below(named("y", lowLink))), at("/f", api.File, 0, file), at("/y", api.Link, 2, lowLink))
	}
	mustAll(t, "no upper nodes", stack(api.Branch{}, below(named("f", lowFile))), at("/f", api.File, 1, lowFile))
}

// P19.1: names that stand above and beneath, in several lower layers, and hidden ones: each shown name is told once.
func TestAllTogether(t *testing.T) {
	top := below(named("a", lowFile), named("b", lowLink), named("c", lowDir), named("w", lowWhite), named("n", lowFree), named("m", none), named("k", lowLast))
	bottom := below(named("a", lowLink), named("b", lowDir), named("c", lowFile), named("w", lowFile), named("n", lowFile), named("m", lowLink))
	mustAll(t, "beneath", stack(above(), top, bottom),
		at("/a", api.File, 1, lowFile), at("/b", api.Link, 1, lowLink), at("/c", api.Dir, 1, lowDir), at("/k", api.Dir, 1, lowLast), at("/m", api.Link, 2, lowLink), at("/n", api.File, 2, lowFile))
	up := above(named("a", link), named("b", white), named("c", file), named("w", file), named("n", free), named("k", opaqueDir), named("m", none))
	fill(top, lowLast, named("x", lowSub))
	mustAll(t, "above and beneath", stack(up, top, bottom),
		at("/a", api.Link, 0, link), at("/c", api.File, 0, file), at("/k", api.Dir, 0, opaqueDir), at("/m", api.Link, 2, lowLink), at("/n", api.File, 2, lowFile), at("/w", api.File, 0, file))
	up = above(named("x", file), named("x", link), named("y", free), named("y", link), named("z", white), named("z", file), named("x", dir))
	mustAll(t, "twice in one directory", stack(up, below(named("z", lowFile), named("x", lowLink))), at("/x", api.File, 0, file), at("/y", api.Link, 0, link))
	low := below(named("x", lowLink), named("x", lowFile))
	mustAll(t, "twice in one lower directory", stack(above(), low), at("/x", api.Link, 1, lowLink))
	mustAll(t, "one file by two names", stack(above(named("b", file), named("a", file)), below(named("d", lowFile), named("c", lowFile))),
		at("/a", api.File, 0, file), at("/b", api.File, 0, file), at("/c", api.File, 1, lowFile), at("/d", api.File, 1, lowFile))
}

// P19.1: names rise within a directory, whatever layer has them; a directory is gone through behind all that were come to ahead of it.
func TestAllOrder(t *testing.T) {
	names := []string{"-", ".a", "0", "9z", "_", "a", "a-", "a.", "a0", "aa", "ab", "b", "z"}
	var up, low []api.Entry
	for i, x := range slices.Backward(names) {
		if i%2 == 0 {
			up = append(up, named(x, file))
		} else {
			low = append(low, named(x, lowFile))
		}
	}
	var want []string
	for _, x := range names {
		want = append(want, "/"+x)
	}
	mustPaths(t, "rising", stack(above(up...), below(low...)), want...)
	b := above(named("c", dir), named("b", file), named("a", sub))
	fill(b, dir, named("a", deep), named("0", link))
	fill(b, sub, named("z", last), named("d", file))
	fill(b, deep, named("q", file))
	fill(b, last, named("p", file), named("o", opaqueDir))
	mustPaths(t, "behind all", stack(b), "/a", "/b", "/c", "/a/d", "/a/z", "/c/0", "/c/a", "/a/z/o", "/a/z/p", "/c/a/q")
	top := below(named("b", lowDir))
	fill(top, lowDir, named("x", lowSub))
	fill(top, lowSub, named("f", lowFile))
	b = above(named("c", dir), named("a", sub))
	fill(b, dir, named("x", deep))
	fill(b, deep, named("f", file))
	fill(b, sub, named("x", last))
	fill(b, last, named("f", file))
	mustPaths(t, "of all layers", stack(b, top), "/a", "/b", "/c", "/a/x", "/b/x", "/c/x", "/a/x/f", "/b/x/f", "/c/x/f")
}

// P19.1: a directory that stands in the upper layer by two names is shown by the one that walk comes to first, with all that is in it.
func TestAllTwice(t *testing.T) {
	b := above(named("b", dir), named("a", dir))
	fill(b, dir, named("x", file))
	mustAll(t, "in one directory", stack(b), at("/b", api.Dir, 0, dir), at("/b/x", api.File, 0, file))
	b = above(named("d", sub), named("c", dir), named("b", last))
	fill(b, sub, named("a", dir), named("x", file))
	fill(b, dir, named("y", file))
	fill(b, last, named("e", deep), named("c", dir))
	fill(b, deep, named("e", sub))
	mustAll(t, "in several", stack(b),
		at("/b", api.Dir, 0, last), at("/c", api.Dir, 0, dir), at("/d", api.Dir, 0, sub), at("/b/e", api.Dir, 0, deep), at("/c/y", api.File, 0, file), at("/d/x", api.File, 0, file))
	b = above(named("self", root), named("d", dir))
	fill(b, dir, named("self", dir), named("up", root), named("x", file))
	mustAll(t, "itself, and what is ahead of it", stack(b), at("/d", api.Dir, 0, dir), at("/d/x", api.File, 0, file))
	b = above(named("f", file), named("d", dir))
	fill(b, dir, named("f", file))
	fill(b, api.Index, named("d", dir), named("e", sub))
	fill(b, api.Work, named("e", sub), named("d", dir))
	fill(b, sub, named("self", sub), named("d", dir))
	mustAll(t, "where the root does not lead", stack(b), at("/d", api.Dir, 0, dir), at("/f", api.File, 0, file), at("/d/f", api.File, 0, file))
	b = above(named("i", api.Index), named("w", api.Work), named("j", api.Index))
	fill(b, api.Work, named("i", api.Index))
	mustPaths(t, "what is special", stack(b), "/i", "/w")
}

// P19.1: what is left out is left out where it stands alone: other entries with its slot, or its name, are not.
func TestAllTwiceSlots(t *testing.T) {
	b := above(named("p", dir), named("q", sub), named("r", dir), named("s", file))
	fill(b, dir, named("a", file), named("b", link), named("r", last), named("d", file))
	fill(b, sub, named("p", deep), named("r", file), named("t", link))
	mustPaths(t, "by slot and directory", stack(b), "/p", "/q", "/s", "/p/a", "/p/b", "/p/d", "/p/r", "/q/p", "/q/r", "/q/t")
	b.Nodes[root-1].Entries = []api.Entry{{Slot: 9, Ino: dir, Name: "p"}, {Slot: 0, Ino: dir, Name: "r"}, {Slot: 4, Ino: sub, Name: "q"}, {Slot: 1, Ino: file, Name: "s"}}
	mustPaths(t, "by slots that do not rise", stack(b), "/p", "/q", "/s", "/p/a", "/p/b", "/p/d", "/p/r", "/q/p", "/q/r", "/q/t")
	low := below(named("l", lowFile), named("m", lowLink), named("n", lowDir))
	fill(low, lowDir, named("x", lowFile))
	b = above(named("p", dir), named("q", dir))
	b.Nodes[root-1].Entries[0].Slot, b.Nodes[root-1].Entries[1].Slot = 7, 0
	mustPaths(t, "names that stand beneath alone have no slot", stack(b, low), "/l", "/m", "/n", "/p", "/n/x")
	b.Nodes[root-1].Entries = []api.Entry{{Slot: 3, Ino: dir, Name: "p"}, {Slot: 5, Ino: dir, Name: "q"}, {Slot: 5, Ino: file, Name: "r"}, {Slot: 5, Ino: link, Name: "s"}}
	mustPaths(t, "what is no directory, by the same slot", stack(b), "/p", "/r", "/s")
}

// P19.1: the name of an entry that is left out is as if it were not there: what is beneath is not told by it.
func TestAllTwiceAboveLower(t *testing.T) {
	for _, ino := range []int{lowDir, lowFile, lowLink, lowWhite, lowOpaque, lowFree, none} {
		low := below(named("q", ino))
		fill(low, lowDir, named("x", lowFile), named("s", lowSub))
		fill(low, lowSub, named("z", lowLink))
		fill(low, lowOpaque, named("x", lowFile))
		for _, a := range []api.Attr{{}, opaque(), redirected("/q"), redirected("q"), redirected("//")} {
			b := above(named("p", dir), named("q", dir))
			b.Nodes[dir-1].Attr = a
			fill(b, dir, named("y", file))
			want := []string{"/p", "/p/y"}
			if a.Has == api.HasRedirect && a.Redirect != "//" && ino == lowDir {
				want = []string{"/p", "/p/s", "/p/x", "/p/y", "/p/s/z"}
			}
			if a.Has == api.HasRedirect && a.Redirect != "//" && ino == lowOpaque {
				want = []string{"/p", "/p/x", "/p/y"}
			}
			mustPaths(t, "the later name", stack(b, low), want...)
		}
	}
	low := below(named("d", lowSub))
	fill(low, lowSub, named("q", lowDir), named("f", lowFile))
	fill(low, lowDir, named("x", lowLink))
	b := above(named("p", dir), named("d", sub))
	fill(b, sub, named("q", dir))
	fill(b, dir, named("y", file))
	mustPaths(t, "in another directory", stack(b, low), "/d", "/p", "/d/f", "/p/y")
}

// P19.1: what is beneath the name by which walk comes to a directory first is shown with it, or hidden by it.
func TestAllTwiceFirstAboveLower(t *testing.T) {
	for ino, want := range map[int][]string{
		lowDir:    {"/p", "/p/s", "/p/x", "/p/y", "/p/s/z"},
		lowOpaque: {"/p", "/p/x", "/p/y"},
		lowFile:   {"/p", "/p/y"},
		lowLink:   {"/p", "/p/y"},
		lowWhite:  {"/p", "/p/y"},
		lowFree:   {"/p", "/p/y"},
	} {
		low := below(named("p", ino))
		fill(low, lowDir, named("x", lowFile), named("s", lowSub))
		fill(low, lowSub, named("z", lowLink))
		fill(low, lowOpaque, named("x", lowFile))
		b := above(named("p", dir), named("q", dir))
		fill(b, dir, named("y", file))
		mustPaths(t, "the first name", stack(b, low), want...)
	}
}

// P19.1: the entry that a name is shown by is asked, not others of its name.
func TestAllTwiceHidden(t *testing.T) {
	b := above(named("d", dir), named("x", file), named("x", dir))
	fill(b, dir, named("y", file))
	mustAll(t, "behind a File", stack(b), at("/d", api.Dir, 0, dir), at("/x", api.File, 0, file), at("/d/y", api.File, 0, file))
	b = above(named("d", dir), named("x", dir), named("x", file))
	mustAll(t, "ahead of a File", stack(b), at("/d", api.Dir, 0, dir))
	b = above(named("d", dir), named("x", free), named("x", dir), named("x", sub))
	mustAll(t, "behind a Free one", stack(b), at("/d", api.Dir, 0, dir))
	b = above(named("d", dir), named("x", sub), named("x", dir))
	mustAll(t, "behind another directory", stack(b), at("/d", api.Dir, 0, dir), at("/x", api.Dir, 0, sub))
	b = above(named("x", white), named("x", dir), named("y", dir), named("z", file))
	fill(b, dir, named("y", file))
	mustAll(t, "that walk came to by a hidden name", stack(b), at("/z", api.File, 0, file))
	b = above(named("d", dir), named("d", dir))
	fill(b, dir, named("y", file))
	mustAll(t, "by one name, twice", stack(b), at("/d", api.Dir, 0, dir), at("/d/y", api.File, 0, file))
}

// P19.1: nothing is told, if a lower layer names a directory twice where its root leads, whichever it is, and though nothing of it is shown.
func TestAllLowerTwice(t *testing.T) {
	twice := below(named("d", lowDir), named("e", lowDir))
	self := below(named("self", root))
	apart := below(named("d", lowDir), named("s", lowSub))
	fill(apart, lowDir, named("l", lowLast))
	fill(apart, lowSub, named("l", lowLast))
	loop := below(named("d", lowDir))
	fill(loop, lowDir, named("s", lowSub))
	fill(loop, lowSub, named("d", lowDir))
	plain := below(named("p", lowDir))
	for _, b := range []api.Branch{twice, self, apart, loop} {
		mustAll(t, "alone", stack(above(named("f", file)), b))
		mustAll(t, "the topmost", stack(above(named("f", file)), b, plain, plain))
		mustAll(t, "in the middle", stack(above(named("f", file)), plain, b, plain))
		mustAll(t, "the last", stack(above(named("f", file)), plain, plain, b))
		mustAll(t, "no upper layer", stack(api.Branch{}, plain, b))
		s := stack(above(named("f", file)), plain, b)
		s.Upper.Nodes[root-1].Attr = opaque()
		mustAll(t, "beneath an opaque root", s)
		s = stack(above(named("f", file)), below(named("p", lowDir)), b)
		s.Lowers[0].Nodes[root-1].Attr = opaque()
		mustAll(t, "beneath an opaque lower root", s)
		s.Geo.Lowers = 1
		mustAll(t, "beyond the layout", s)
	}
}

// P19.1: what a lower layer names twice where its root does not lead, and what are no directories, do not count.
func TestAllLowerTwiceElsewhere(t *testing.T) {
	elsewhere := below(named("d", lowDir), named("f", lowFile))
	fill(elsewhere, lowSub, named("d", lowDir), named("e", lowDir), named("self", lowSub), named("root", root))
	fill(elsewhere, lowFile, named("d", lowDir), named("root", root))
	mustAll(t, "elsewhere", stack(above(), elsewhere, elsewhere), at("/d", api.Dir, 1, lowDir), at("/f", api.File, 1, lowFile))
	mustAll(t, "elsewhere, beneath", stack(above(), below(), elsewhere), at("/d", api.Dir, 2, lowDir), at("/f", api.File, 2, lowFile))
	for _, kind := range []int{api.Free, api.File, api.Link, api.White, -1, 5} {
		noRoot := below(named("d", lowDir), named("e", lowDir), named("self", root))
		noRoot.Nodes[root-1].Kind = kind
		mustAll(t, "without a root", stack(above(), noRoot, below(named("f", lowFile))), at("/f", api.File, 2, lowFile))
	}
	files := below(named("f", lowFile), named("g", lowFile), named("l", lowLink), named("m", lowLink), named("w", lowWhite), named("x", lowWhite))
	mustPaths(t, "Files, Links and Whites", stack(above(), files), "/f", "/g", "/l", "/m")
}

// P19.1: lower directories are told each time that one comes to them, also by redirects.
func TestAllRedirects(t *testing.T) {
	low := below(named("d", lowDir), named("f", lowFile))
	fill(low, lowDir, named("s", lowSub), named("x", lowFile))
	fill(low, lowSub, named("y", lowLink))
	b := above(named("q", dir), named("r", sub), named("d", white))
	b.Nodes[dir-1].Attr = redirected("/d")
	b.Nodes[sub-1].Attr = redirected("/d")
	fill(b, sub, named("u", file))
	s := stack(b, low)
	mustAll(t, "two of one", s,
		at("/f", api.File, 1, lowFile), at("/q", api.Dir, 0, dir), at("/r", api.Dir, 0, sub),
		at("/q/s", api.Dir, 1, lowSub), at("/q/x", api.File, 1, lowFile), at("/r/s", api.Dir, 1, lowSub), at("/r/u", api.File, 0, file), at("/r/x", api.File, 1, lowFile),
		at("/q/s/y", api.Link, 1, lowLink), at("/r/s/y", api.Link, 1, lowLink))
	b.Nodes[dir-1].Attr = redirected("/")
	b.Nodes[sub-1].Attr = redirected("/d/s")
	mustPaths(t, "the root, and one that lies deep", s, "/f", "/q", "/r", "/q/d", "/q/f", "/r/u", "/r/y", "/q/d/s", "/q/d/x", "/q/d/s/y")
	b.Nodes[sub-1].Attr = redirected("d")
	b.Nodes[dir-1].Attr = redirected("f")
	mustPaths(t, "by a name", s, "/f", "/q", "/r", "/r/s", "/r/u", "/r/x", "/r/s/y")
}

// P19.1: nothing is shown beneath an opaque directory, the root among them.
func TestAllOpaque(t *testing.T) {
	low := below(named("d", lowDir), named("f", lowFile))
	fill(low, lowDir, named("x", lowFile))
	b := above(named("d", dir), named("g", file))
	fill(b, dir, named("y", file))
	mustPaths(t, "not opaque", stack(b, low), "/d", "/f", "/g", "/d/x", "/d/y")
	b.Nodes[dir-1].Attr = opaque()
	mustPaths(t, "a directory", stack(b, low), "/d", "/f", "/g", "/d/y")
	b.Nodes[root-1].Attr = opaque()
	mustPaths(t, "the root", stack(b, low), "/d", "/g", "/d/y")
	b.Nodes[dir-1].Attr = redirected("/d")
	mustPaths(t, "the root, and a redirect", stack(b, low), "/d", "/g", "/d/x", "/d/y")
	low.Nodes[root-1].Attr = opaque()
	mustPaths(t, "a lower root", stack(above(), low, below(named("z", lowFile))), "/d", "/f", "/d/x")
}

// P19.1: entries, kinds and attributes that may not be.
func TestAllWrong(t *testing.T) {
	b := above(named("f", file))
	low := below(named("g", lowFile))
	for _, ino := range append(sample.Far(), 0, -1, last+1, none) {
		b.Nodes[root-1].Entries = append(b.Nodes[root-1].Entries, api.Entry{Slot: -ino, Ino: ino, Name: "x"})
		low.Nodes[root-1].Entries = append(low.Nodes[root-1].Entries, api.Entry{Slot: ino, Ino: ino, Name: "y"})
	}
	mustPaths(t, "inodes that are not there", stack(b, low), "/f", "/g")
	for _, kind := range append(sample.Far(), -1, 5) {
		b := above(named("d", dir), named("f", file), named("g", file))
		b.Nodes[dir-1] = api.Node{Kind: kind, Entries: []api.Entry{named("x", file)}}
		low := below(named("d", lowDir), named("e", lowDir), named("f", lowSub))
		low.Nodes[lowDir-1] = api.Node{Kind: kind, Entries: []api.Entry{named("x", lowFile)}}
		mustPaths(t, "a kind that there is not", stack(b, low), "/f", "/g")
	}
	for _, kind := range []int{api.Free, api.File, api.Link, api.White} {
		b := above(named("d", dir), named("z", file))
		b.Nodes[dir-1] = api.Node{Kind: kind, Attr: redirected("/d"), Entries: []api.Entry{named("x", file), named("up", root)}}
		for _, x := range shown.All(stack(b, below(named("d", lowFile)))) {
			if strings.HasPrefix(x.Path, "/d/") || x.Kind == api.Dir {
				t.Errorf("entries of kind %d: %v", kind, x)
			}
		}
	}
	odd := []string{"", ".", "..", "A", "\x00", "\xff", "a b", strings.Repeat("n", 300)}
	b = above()
	for i, x := range odd {
		b.Nodes[root-1].Entries = append(b.Nodes[root-1].Entries, api.Entry{Slot: i, Ino: file, Name: x})
	}
	var want []string
	slices.Sort(odd)
	for _, x := range odd {
		want = append(want, path.Join([]string{x}))
	}
	mustPaths(t, "names that are not right", stack(b), want...)
}

// P19.2: Places that several paths show, or none, and those of directories.
func TestCount(t *testing.T) {
	low := below(named("d", lowDir), named("f", lowFile), named("g", lowFile), named("l", lowLink), named("w", lowWhite))
	fill(low, lowDir, named("f", lowFile), named("h", lowFile), named("l", lowLink))
	b := above(named("q", dir), named("f", file), named("z", white), named("m", link))
	b.Nodes[dir-1].Attr = redirected("/d")
	fill(b, dir, named("h", white), named("m", link), named("n", link), named("o", file))
	fill(b, api.Index, named("f", file))
	s := stack(b, low, below(named("f", lowFile), named("k", lowLink)))
	for p, want := range map[api.Place]int{
		{Layer: 1, Ino: lowFile}:  4, // "/g", "/d/f", "/d/h", "/q/f"
		{Layer: 1, Ino: lowLink}:  3, // "/l", "/d/l", "/q/l"
		{Layer: 0, Ino: file}:     2, // "/f", "/q/o"
		{Layer: 0, Ino: link}:     3, // "/m", "/q/m", "/q/n"
		{Layer: 2, Ino: lowLink}:  1, // "/k"
		{Layer: 2, Ino: lowFile}:  0, // hidden
		{Layer: 0, Ino: dir}:      0,
		{Layer: 1, Ino: lowDir}:   0,
		{Layer: 1, Ino: lowWhite}: 0,
		{Layer: 0, Ino: white}:    0,
		{Layer: 0, Ino: root}:     0,
		{Layer: 1, Ino: root}:     0,
		{}:                        0,
		{Layer: 3, Ino: lowFile}:  0,
		{Layer: -1, Ino: lowFile}: 0,
		{Layer: 0, Ino: lowFile}:  0,
		{Layer: 1, Ino: file}:     0,
	} {
		mustCount(t, "a place", s, p, want)
		mustCount(t, "in no stack", api.Stack{}, p, 0)
	}
	for _, n := range sample.Far() {
		mustCount(t, "no place", s, api.Place{Layer: n, Ino: lowFile}, 0)
		mustCount(t, "no place", s, api.Place{Layer: 1, Ino: n}, 0)
	}
	fill(s.Lowers[1], root, named("f", lowFile), named("d", lowDir), named("e", lowDir))
	mustCount(t, "over a lower layer that names a directory twice", s, api.Place{Layer: 1, Ino: lowFile}, 0)
	b = above(named("d", dir), named("e", dir))
	fill(b, dir, named("f", file))
	mustCount(t, "in a directory of two names", stack(b), api.Place{Ino: file}, 1)
}

// P19.2: the paths as they stand in the list.
func TestPaths(t *testing.T) {
	if got := shown.Paths(nil); len(got) != 0 {
		t.Errorf("of nothing: %q", got)
	}
	if got := shown.Paths([]api.Shown{}); len(got) != 0 {
		t.Errorf("of nothing: %q", got)
	}
	l := []api.Shown{at("/z", api.Dir, 0, dir), at("", 0, 0, 0), at("/a", api.File, 1, 2), at("/z", -1, -1, -1), at("\xff", math.MaxInt, math.MinInt, 7), at("/a/b", api.Link, 0, 3)}
	if got, want := shown.Paths(l), []string{"/z", "", "/a", "/z", "\xff", "/a/b"}; !slices.Equal(got, want) {
		t.Errorf("Paths: %q, not %q", got, want)
	}
	for i := range l {
		if got := shown.Paths(l[i : i+1]); !slices.Equal(got, []string{l[i].Path}) {
			t.Errorf("Paths of %v: %q", l[i], got)
		}
	}
}

func letters() []string {
	return []string{"a", "b", "c", "d", "e"}
}

// someEntries is entries with slots of their own, some with a name that another one has.
func someEntries(r *rand.Rand, inodes, most int) []api.Entry {
	slots := r.Perm(16)
	var l []api.Entry
	for i := range r.Intn(most + 1) {
		l = append(l, api.Entry{Slot: slots[i], Ino: r.Intn(inodes+2) + r.Intn(2), Name: letters()[r.Intn(5)]})
	}
	return l
}

func someAttr(r *rand.Rand) api.Attr {
	switch r.Intn(6) {
	case 0:
		to := []string{"/a", "/b", "/a/b", "/", "a", "b", "c", "/d/a", "", "//"}
		return redirected(to[r.Intn(len(to))])
	case 1:
		return api.Attr{Has: api.HasOpaque, Opaque: api.Mark - r.Intn(4)/3}
	}
	return api.Attr{}
}

func someBranch(r *rand.Rand) api.Branch {
	l := make([]api.Node, 1+r.Intn(10))
	for i := range l {
		l[i] = api.Node{Kind: []int{0, 1, 1, 1, 1, 1, 2, 2, 3, 4, 5}[r.Intn(11)], Attr: someAttr(r), Entries: someEntries(r, len(l), 6)}
	}
	l[0].Kind = []int{1, 1, 1, 1, 1, 1, 1, 2}[r.Intn(8)]
	return api.Branch{Nodes: l}
}

// some is a stack of any layers, of few names and nodes, so that they often meet; most of its lower ones are trees.
func some(r *rand.Rand) api.Stack {
	s := api.Stack{Upper: someBranch(r)}
	if r.Intn(3) == 0 {
		s.Upper = walk.Prune(s.Upper, root)
	}
	for range r.Intn(4) {
		b := someBranch(r)
		if r.Intn(8) != 0 {
			b = walk.Prune(b, root)
		}
		s.Lowers = append(s.Lowers, b)
	}
	return s
}

// node is a node by a second reading of the chapter, as all that follows here.
func node(b api.Branch, ino int) api.Node {
	for i, n := range b.Nodes {
		if i+1 == ino {
			return n
		}
	}
	return api.Node{}
}

// visits is which entry of which directory brought each directory that is come to from the root; whether others name one, too.
func visits(b api.Branch) (map[int][2]int, bool) {
	brought := map[int][2]int{}
	if node(b, root).Kind != api.Dir {
		return brought, false
	}
	brought[root] = [2]int{}
	again := false
	for list := []int{root}; len(list) > 0; list = list[1:] {
		for i, e := range node(b, list[0]).Entries {
			if node(b, e.Ino).Kind != api.Dir {
				continue
			}
			if _, come := brought[e.Ino]; come {
				again = true
				continue
			}
			brought[e.Ino] = [2]int{list[0], i}
			list = append(list, e.Ino)
		}
	}
	return brought, again
}

// leaves tells whether the entry by which the directory shows that name brought none.
func leaves(s api.Stack, brought map[int][2]int, dir int, name string) bool {
	for i, e := range node(s.Upper, dir).Entries {
		kind := node(s.Upper, e.Ino).Kind
		if e.Name == name && kind != api.Free {
			return kind == api.Dir && brought[e.Ino] != [2]int{dir, i}
		}
	}
	return false
}

// model asks At of each path anew, level by level.
func model(s api.Stack) []api.Shown {
	for _, b := range s.Lowers {
		if _, again := visits(b); again {
			return nil
		}
	}
	brought, _ := visits(s.Upper)
	var told []api.Shown
	for level := [][]string{nil}; len(level) > 0; {
		var deeper [][]string
		for _, names := range level {
			_, v, _ := merge.At(s, names)
			for _, x := range letters() {
				to := append(slices.Clone(names), x)
				kind, _, p := merge.At(s, to)
				if kind == 0 || v.Upper != 0 && leaves(s, brought, v.Upper, x) {
					continue
				}
				told = append(told, api.Shown{Path: "/" + strings.Join(to, "/"), Kind: kind, Place: p})
				if kind == api.Dir {
					deeper = append(deeper, to)
				}
			}
		}
		level = deeper
	}
	return told
}

// P19.1, P19.2: many stacks, held against the model.
func TestMany(t *testing.T) {
	r := rand.New(rand.NewSource(1))
	met := map[string]int{}
	for range 20000 {
		s := some(r)
		want := model(s)
		mustAll(t, "any stack", s, want...)
		counts := map[api.Place]int{}
		var paths []string
		for _, x := range want {
			paths = append(paths, x.Path)
			if x.Kind != api.Dir {
				counts[x.Place]++
			}
		}
		mustPaths(t, "any stack", s, paths...)
		counts[api.Place{Layer: r.Intn(4), Ino: r.Intn(12)}] += 0
		for p, n := range counts {
			mustCount(t, "any stack", s, p, n)
			if n > 1 {
				met["several"]++
			}
		}
		if _, again := visits(s.Upper); again && len(want) > 0 {
			met["again"]++
		}
		if slices.ContainsFunc(want, func(x api.Shown) bool { return strings.Count(x.Path, "/") > 2 }) {
			met["deep"]++
		}
		if t.Failed() {
			t.Fatal(s)
		}
	}
	for _, x := range []string{"several", "again", "deep"} {
		if met[x] < 1000 {
			t.Fatal(met)
		}
	}
}

// P19.3: each path is shown, and none is told twice.
func TestPathsAreShown(t *testing.T) {
	r := rand.New(rand.NewSource(2))
	many := 0
	for range 10000 {
		s := some(r)
		told := map[string]int{}
		for _, x := range shown.All(s) {
			many++
			told[x.Path]++
			if told[x.Path] > 1 || x.Path == "/" || x.Path == "" {
				t.Errorf("%v: %v is told", s, x)
			}
			if len(walk.Twice(s.Upper, root)) > 0 {
				continue
			}
			seen, ok := merge.Of(s, x.Path)
			if !ok || seen.Kind != x.Kind {
				t.Errorf("%v: %v is not shown: %v", s, x, seen)
			}
		}
	}
	if many < 10000 {
		t.Fatal(many)
	}
}

// P19.1: of an upper layer that names no directory twice all is told that is shown.
func TestAllThatIsShown(t *testing.T) {
	r := rand.New(rand.NewSource(3))
	for range 3000 {
		s := some(r)
		s.Upper = walk.Prune(s.Upper, root)
		if slices.ContainsFunc(s.Lowers, func(b api.Branch) bool { return len(walk.Twice(b, root)) > 0 }) {
			continue
		}
		paths := shown.Paths(shown.All(s))
		for _, dir := range append([]string{""}, paths...) {
			for _, x := range letters() {
				if _, ok := merge.Of(s, dir+"/"+x); ok != slices.Contains(paths, dir+"/"+x) {
					t.Fatalf("%v: %q: %v", s, dir+"/"+x, ok)
				}
			}
		}
	}
}

// P0: stacks end that name directories in circles, whatever their slots.
func TestAllEnds(t *testing.T) {
	r := rand.New(rand.NewSource(4))
	for range 3000 {
		s := some(r)
		for _, b := range append([]api.Branch{s.Upper}, s.Lowers...) {
			for i := range b.Nodes {
				for k := range b.Nodes[i].Entries {
					b.Nodes[i].Entries[k].Slot = r.Intn(3) - 1
				}
			}
		}
		l := shown.All(s)
		for _, x := range l {
			if x.Kind < api.Dir || x.Kind > api.Link {
				t.Fatalf("%v: %v", s, x)
			}
		}
	}
	for _, to := range []string{"/", "/d", "d", "/d/e"} {
		b := above(named("d", dir), named("e", sub), named("self", root))
		for _, ino := range []int{dir, sub} {
			b.Nodes[ino-1].Attr = redirected(to)
			fill(b, ino, named("d", dir), named("e", sub), named("up", root))
		}
		low := below(named("d", lowDir))
		fill(low, lowDir, named("e", lowSub))
		if l := shown.All(stack(b, low, low)); len(l) < 2 || len(l) > 8 {
			t.Errorf("redirect %q: %v", to, l)
		}
	}
}

// P19.1: many directories, one in the other.
func TestAllDeep(t *testing.T) {
	const many = 1000
	var l []api.Node
	for i := range many {
		l = append(l, api.Node{Kind: api.Dir, Entries: []api.Entry{named("d", i+2), {Slot: 1, Ino: i, Name: "up"}}})
	}
	for _, s := range []api.Stack{stack(api.Branch{Nodes: l}), stack(api.Branch{}, walk.Prune(api.Branch{Nodes: l}, root))} {
		all := shown.All(s)
		if len(all) != many-1 || all[many-2].Path != strings.Repeat("/d", many-1) || all[many-2].Place.Ino != many {
			t.Errorf("%d paths", len(all))
		}
	}
}

// P19.1, P19.2: the layout is not asked.
func TestAsksNoLayout(t *testing.T) {
	low := below(named("f", lowFile))
	for _, g := range []api.Geo{{}, {Lowers: -1}, {Lowers: 1, Inodes: 1}, {Lowers: math.MaxInt, Inodes: math.MaxInt}} {
		s := stack(above(named("u", file)), below(), below(), below(), below(), low)
		s.Geo = g
		mustAll(t, "another layout", s, at("/f", api.File, 5, lowFile), at("/u", api.File, 0, file))
		mustCount(t, "another layout", s, api.Place{Layer: 5, Ino: lowFile}, 1)
	}
}

// wide is a stack with all that All can tell.
func wide() api.Stack {
	low := below(named("d", lowDir), named("f", lowFile))
	fill(low, lowDir, named("s", lowSub), named("x", lowLink))
	b := above(named("q", dir), named("r", dir), named("w", white), named("d", sub))
	b.Nodes[dir-1].Attr = redirected("/d")
	return stack(b, low, below(named("d", lowDir)))
}

// What is handed in stays as it is, and answers share no memory with it, nor with one another.
func TestAnswersShareNothing(t *testing.T) {
	s := wide()
	got, again := shown.All(s), shown.All(s)
	want := slices.Clone(got)
	paths := shown.Paths(again)
	clear(paths[:cap(paths)])
	if !slices.Equal(again, want) {
		t.Error("Paths are pieces of the list")
	}
	clear(got[:cap(got)])
	if len(want) < 6 || !slices.Equal(again, want) {
		t.Errorf("%v, not %v", again, want)
	}
	shown.Count(s, api.Place{Layer: 1, Ino: lowLink})
	if !reflect.DeepEqual(s, wide()) {
		t.Error("what was handed in is changed")
	}
	for _, b := range append([]api.Branch{s.Upper}, s.Lowers...) {
		for i := range b.Nodes {
			clear(b.Nodes[i].Entries)
		}
	}
	if !slices.Equal(again, want) {
		t.Error("what is told changes with the stack")
	}
}
