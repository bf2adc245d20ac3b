package view_test

import (
	"math"
	"math/rand"
	"reflect"
	"slices"
	"strings"
	"testing"

	"craquelure/api"
	"craquelure/lower"
	"craquelure/path"
	"craquelure/sample"
	"craquelure/view"
	"craquelure/walk"
)

const root = api.Root

// Inodes of lower layers.
const (
	lowWhite, lowFile, lowLink, lowDir, lowOpaque, lowFree = 2, 3, 4, 5, 6, 7
	lowLast                                                = 8
)

// Inodes of upper layers: others than those of lower ones, so that none is taken for one of these.
const (
	white, file, link, dir, opaqueDir, free = 11, 12, 13, 14, 15, 16
	last                                    = 17
	none                                    = 99
)

func opaque() api.Attr {
	return api.Attr{Has: api.HasOpaque, Opaque: api.Mark}
}

func redirected(to string) api.Attr {
	return api.Attr{Has: api.HasRedirect, Redirect: to}
}

// layer is a layer that has nodes of these kinds, and a root with these entries.
func layer(nodes int, kinds map[int]int, entries []api.Entry) api.Branch {
	l := make([]api.Node, nodes)
	for ino, kind := range kinds {
		l[ino-1] = api.Node{Kind: kind, Nlink: 1}
	}
	l[root-1] = api.Node{Kind: api.Dir, Nlink: 2, Entries: entries}
	return api.Branch{Nodes: l}
}

func above(entries ...api.Entry) api.Branch {
	b := layer(last, map[int]int{api.Work: api.Dir, api.Index: api.Dir, white: api.White, file: api.File, link: api.Link, dir: api.Dir, opaqueDir: api.Dir, last: api.Dir}, entries)
	b.Nodes[opaqueDir-1].Attr = opaque()
	return b
}

func below(entries ...api.Entry) api.Branch {
	b := layer(lowLast, map[int]int{lowWhite: api.White, lowFile: api.File, lowLink: api.Link, lowDir: api.Dir, lowOpaque: api.Dir, lowLast: api.Dir}, entries)
	b.Nodes[lowOpaque-1].Attr = opaque()
	return b
}

func stack(up api.Branch, lowers ...api.Branch) api.Stack {
	return api.Stack{Geo: api.Geo{Lowers: len(lowers), Inodes: last, Blocks: 9, Log: 5}, Upper: up, Lowers: lowers}
}

func named(name string, ino int) api.Entry {
	return api.Entry{Ino: ino, Name: name}
}

// places is Places by their Layers and Inos, one behind the other.
func places(l ...int) []api.Place {
	var p []api.Place
	for i := 0; i < len(l); i += 2 {
		p = append(p, api.Place{Layer: l[i], Ino: l[i+1]})
	}
	return p
}

// seen is a View of that upper directory, over Places as places reads them.
func seen(upper int, l ...int) api.View {
	return api.View{Upper: upper, Lower: places(l...)}
}

func same(a, b api.View) bool {
	return a.Upper == b.Upper && slices.Equal(a.Lower, b.Lower)
}

func mustRoot(t *testing.T, why string, s api.Stack, want api.View) {
	t.Helper()
	if got := view.Root(s); !same(got, want) {
		t.Errorf("%s: Root: %v, not %v", why, got, want)
	}
}

func mustPart(t *testing.T, why string, s api.Stack, v api.View, ino int, name string, want ...int) {
	t.Helper()
	if got := view.Part(s, v, ino, name); !slices.Equal(got, places(want...)) {
		t.Errorf("%s: Part(%v, %d, %q): %v, not %v", why, v, ino, name, got, want)
	}
}

func mustStep(t *testing.T, why string, s api.Stack, v api.View, name string, kind int, to api.View, at api.Place) {
	t.Helper()
	if k, w, p := view.Step(s, v, name); k != kind || !same(w, to) || p != at {
		t.Errorf("%s: Step(%v, %q): %d, %v, %v, not %d, %v, %v", why, v, name, k, w, p, kind, to, at)
	}
}

func mustNotStep(t *testing.T, why string, s api.Stack, v api.View, name string) {
	t.Helper()
	mustStep(t, why, s, v, name, 0, api.View{}, api.Place{})
}

func mustName(t *testing.T, why string, s api.Stack, v api.View, want ...string) {
	t.Helper()
	if got := view.Names(s, v); !slices.Equal(got, want) {
		t.Errorf("%s: Names(%v): %q, not %q", why, v, got, want)
	}
}

func mustTree(t *testing.T, why string, s api.Stack, ways []api.Way, views []api.View) {
	t.Helper()
	w, v := view.Tree(s)
	if !slices.Equal(w, ways) || !slices.EqualFunc(v, views, same) {
		t.Errorf("%s: Tree: %v, %v, not %v, %v", why, w, v, ways, views)
	}
}

// attrs is attributes of which a Dir is opaque, or not.
func attrs() map[api.Attr]bool {
	return map[api.Attr]bool{
		{}:                                              false,
		{Has: api.HasOpaque, Opaque: api.Mark}:          true,
		{Has: 31, Opaque: api.Mark, Shown: 3}:           true,
		{Has: -1, Opaque: api.Mark}:                     true,
		{Has: 33, Opaque: api.Mark}:                     true,
		{Has: api.HasOpaque}:                            false,
		{Has: api.HasOpaque, Opaque: 1}:                 false,
		{Has: api.HasOpaque, Opaque: 255}:               false,
		{Has: api.HasOpaque, Opaque: api.Mark + 1}:      false,
		{Has: api.HasOpaque, Opaque: api.Mark - 1}:      false,
		{Has: api.HasOpaque, Opaque: api.Mark + 256}:    false,
		{Has: api.HasOpaque, Opaque: -api.Mark}:         false,
		{Opaque: api.Mark}:                              false,
		{Has: 28, Opaque: api.Mark}:                     false,
		{Has: 32, Opaque: api.Mark}:                     false,
		{Has: api.HasShown, Opaque: api.Mark, Shown: 1}: false,
		{Has: api.HasOrigin, Opaque: api.Mark, Origin: api.Origin{Layer: 1}}: false,
		{Has: api.HasOpaque | api.HasMeta, Shown: api.Mark}:                  false,
	}
}

// P17.1: opaque are Dirs alone, with HasOpaque and Mark.
func TestOpaque(t *testing.T) {
	for a, is := range attrs() {
		for _, impure := range []int{0, api.Mark} {
			n := api.Node{Kind: api.Dir, Impure: impure, Nlink: 2, Attr: a}
			if got := view.Opaque(n); got != is {
				t.Errorf("Opaque of a Dir with %v: %v", a, got)
			}
			for _, kind := range append(sample.Far(), api.Free, api.File, api.Link, api.White, -1, 5) {
				n.Kind = kind
				if view.Opaque(n) {
					t.Errorf("Opaque of kind %d with %v", kind, a)
				}
			}
		}
	}
	if view.Opaque(api.Node{}) {
		t.Error("Opaque of a zero node")
	}
}

// P17.1: an upper root that is a Dir, over one lower layer, more of them, and none.
func TestRoot(t *testing.T) {
	mustRoot(t, "one", stack(above(), below()), seen(root, 1, root))
	mustRoot(t, "three", stack(above(), below(), below(), below()), seen(root, 1, root, 2, root, 3, root))
	mustRoot(t, "no lower layer", stack(above()), seen(root))
	mustRoot(t, "lower layers without nodes", stack(above(), api.Branch{}, api.Branch{}), seen(root))
	mustRoot(t, "nothing at all", api.Stack{}, seen(0))
	mustRoot(t, "no upper nodes", stack(api.Branch{}, below(), below()), seen(0, 1, root, 2, root))
	mustRoot(t, "the root alone", stack(api.Branch{Nodes: above().Nodes[:1]}, below()), seen(root, 1, root))
	s := stack(above(), below(), below(), below())
	s.Lowers[1].Nodes[0].Attr = opaque()
	mustRoot(t, "an opaque lower root", s, seen(root, 1, root, 2, root))
	s.Lowers[0].Nodes[0].Kind = api.File
	mustRoot(t, "a lower root that is a File", s, seen(root, 2, root))
	s.Lowers[1].Nodes[0].Kind = api.White
	mustRoot(t, "a lower root that is a White", s, seen(root, 3, root))
}

// P17.1: an upper root that is opaque, or bears a mark that is none.
func TestRootOpaque(t *testing.T) {
	for a, is := range attrs() {
		s := stack(above(), below(), below())
		s.Upper.Nodes[0].Attr = a
		if is {
			mustRoot(t, "opaque", s, seen(root))
		} else {
			mustRoot(t, "not opaque", s, seen(root, 1, root, 2, root))
		}
	}
	s := stack(above(), below(), below())
	s.Upper.Nodes[0].Attr = redirected("/x")
	mustRoot(t, "with a redirect", s, seen(root, 1, root, 2, root))
}

// P17.1: an upper root that is no Dir is none, and hides nothing, though it bears a mark.
func TestRootNoDir(t *testing.T) {
	for _, kind := range append(sample.Far(), api.Free, api.File, api.Link, api.White, -1, 5) {
		for _, a := range []api.Attr{{}, opaque()} {
			s := stack(above(named("x", file)), below(), below())
			s.Upper.Nodes[0].Kind = kind
			s.Upper.Nodes[0].Attr = a
			mustRoot(t, "no Dir", s, seen(0, 1, root, 2, root))
			mustRoot(t, "no Dir, and no lower layer", stack(s.Upper), seen(0))
		}
	}
}

// hills is a stack whose lower layers have "/d/e", and a root view and one of "/d" in the second layer alone, so that a redirect tells where it was looked for.
func hills() (api.Stack, api.View) {
	top := below(named("d", lowDir), named("f", lowFile), named("w", lowWhite), named("l", lowLink), named("o", lowOpaque), named("n", lowFree), named("m", none))
	top.Nodes[lowDir-1].Entries = []api.Entry{named("e", lowLast), named("g", lowFile)}
	bottom := below(named("d", lowDir), named("f", lowDir), named("w", lowDir), named("l", lowDir), named("o", lowDir), named("n", lowDir), named("m", lowDir), named("q", lowOpaque))
	bottom.Nodes[lowDir-1].Entries = []api.Entry{named("e", lowLast), named("g", lowDir), named("h", lowFile), named("i", lowWhite), named("k", lowLink), named("j", lowFree)}
	return stack(above(), top, bottom), seen(dir, 2, lowDir)
}

// P17.2: without a redirect: what its name leads to.
func TestPart(t *testing.T) {
	s, v := hills()
	r := view.Root(s)
	mustPart(t, "in both", s, r, dir, "d", 1, lowDir, 2, lowDir)
	mustPart(t, "in the second", s, r, dir, "q", 2, lowOpaque)
	mustPart(t, "an opaque one in the first", s, r, dir, "o", 1, lowOpaque)
	mustPart(t, "a Free one in the first", s, r, dir, "n", 2, lowDir)
	mustPart(t, "none in the first", s, r, dir, "m", 2, lowDir)
	for _, name := range []string{"f", "w", "l", "z", "", "/d", "d/", ".", "..", "D", "d/e", "\xff", "a-very-long-name-that-is-none"} {
		mustPart(t, "nothing, or no Dir", s, r, dir, name)
	}
	mustPart(t, "below the root", s, v, dir, "e", 2, lowLast)
	mustPart(t, "below the root, of another one", s, v, last, "g", 2, lowDir)
	for _, name := range []string{"h", "i", "k", "j", "d", "z"} {
		mustPart(t, "below the root: nothing, or no Dir", s, v, dir, name)
	}
	mustPart(t, "of the root itself", s, r, root, "d", 1, lowDir, 2, lowDir)
	mustPart(t, "in nothing", s, seen(dir), dir, "d")
	mustPart(t, "in no view", s, api.View{}, dir, "d")
	mustPart(t, "in what is no Dir", s, seen(dir, 1, lowFile, 2, none, 0, dir, 7, root), dir, "d")
	mustPart(t, "no lower layer", stack(above()), r, dir, "d")
}

// P17.2: neither the Upper of the view, nor whether the directory stands there, is asked.
func TestPartAsksNoUpper(t *testing.T) {
	s, v := hills()
	s.Upper.Nodes[root-1].Attr = opaque()
	for _, upper := range append(sample.Far(), 0, -1, 1, root, file, white, free, dir, opaqueDir) {
		v.Upper = upper
		mustPart(t, "any Upper", s, v, dir, "e", 2, lowLast)
		s.Upper.Nodes[dir-1].Attr = redirected("/d")
		mustPart(t, "any Upper, with a redirect", s, v, dir, "e", 1, lowDir, 2, lowDir)
		s.Upper.Nodes[dir-1].Attr = api.Attr{}
	}
}

// P17.2: of an inode that is not there, and of one that is no Dir, also with a redirect.
func TestPartNoDir(t *testing.T) {
	s, _ := hills()
	r := view.Root(s)
	for _, a := range []api.Attr{{}, redirected("/d"), redirected("d")} {
		for i := range s.Upper.Nodes {
			if s.Upper.Nodes[i].Kind != api.Dir {
				s.Upper.Nodes[i].Attr = a
			}
		}
		for _, ino := range append(sample.Far(), white, file, link, free, 0, -1, last+1, last+2, none) {
			mustPart(t, "no Dir", s, r, ino, "d")
		}
	}
	for _, kind := range append(sample.Far(), -1, 5) {
		s.Upper.Nodes[dir-1].Kind = kind
		mustPart(t, "no kind", s, r, dir, "d")
	}
	s.Upper = api.Branch{}
	mustPart(t, "no upper nodes", s, r, dir, "d")
}

// P17.2: an opaque one has nothing beneath, also with a redirect; a mark that is none hides nothing.
func TestPartOpaque(t *testing.T) {
	s, _ := hills()
	r := view.Root(s)
	for a, is := range attrs() {
		if a.Has&api.HasRedirect != 0 {
			a.Redirect = "/d/e"
		}
		s.Upper.Nodes[dir-1].Attr = a
		switch {
		case is:
			mustPart(t, "opaque", s, r, dir, "d")
		case a.Has&api.HasRedirect != 0:
			mustPart(t, "not opaque, with a redirect", s, r, dir, "d", 1, lowLast, 2, lowLast)
		default:
			mustPart(t, "not opaque", s, r, dir, "d", 1, lowDir, 2, lowDir)
		}
	}
	for _, to := range []string{"/d", "d", "/", ""} {
		s.Upper.Nodes[dir-1].Attr = api.Attr{Has: api.HasOpaque | api.HasRedirect, Opaque: api.Mark, Redirect: to}
		mustPart(t, "opaque, with a redirect", s, r, dir, "d")
		s.Upper.Nodes[dir-1].Attr.Opaque = 1
		if to == "/d" {
			mustPart(t, "an odd mark, with a redirect", s, r, dir, "z", 1, lowDir, 2, lowDir)
		}
	}
}

// P17.2: a redirect that is absolute is looked for from the lower roots on, one that is a name in the view, whatever its own name.
func TestPartRedirect(t *testing.T) {
	s, v := hills()
	for _, name := range []string{"e", "g", "d", "z", "h", ""} {
		for to, want := range map[string][]int{
			"/":      {1, root, 2, root},
			"/d":     {1, lowDir, 2, lowDir},
			"/d/e":   {1, lowLast, 2, lowLast},
			"/q":     {2, lowOpaque},
			"/o":     {1, lowOpaque},
			"/n":     {2, lowDir},
			"e":      {2, lowLast},
			"g":      {2, lowDir},
			"/f":     nil, // a File above a Dir
			"/l":     nil,
			"/w":     nil,
			"/z":     nil,
			"/d/z":   nil,
			"/z/d":   nil,
			"/d/g":   nil,
			"/w/e":   nil,
			"/d/e/e": nil,
			"d":      nil, // it stands in the root, not in the view
			"h":      nil,
			"i":      nil,
			"k":      nil,
			"j":      nil,
			"z":      nil,
		} {
			s.Upper.Nodes[dir-1].Attr = redirected(to)
			mustPart(t, "a redirect "+to, s, v, dir, name, want...)
			s.Upper.Nodes[dir-1].Attr.Has = 31 &^ api.HasOpaque
			mustPart(t, "a redirect, among others, "+to, s, v, dir, name, want...)
		}
	}
}

// P17.2: with a redirect that path.Redirect does not take there is nothing; one without HasRedirect is not asked.
func TestPartNoRedirect(t *testing.T) {
	s, v := hills()
	for _, to := range []string{"", "e/", "d/e", "//d", "/d/", "/d//e", "/.", "/d/.", "/d/..", ".", "..", "E", "/D", "e ", " e", "/d\x00", "\xff", "aaaaaaaaaaaaa", "/aaaaaaaaaaaaa", strings.Repeat("/d", 13), strings.Repeat("e", 1000)} {
		s.Upper.Nodes[dir-1].Attr = redirected(to)
		mustPart(t, "no redirect "+to, s, v, dir, "e")
		mustPart(t, "no redirect "+to, s, view.Root(s), dir, "d")
	}
	for _, has := range []int{0, 28, -4, 32} {
		for _, to := range []string{"/d", "/", "g", "", "//"} {
			s.Upper.Nodes[dir-1].Attr = api.Attr{Has: has, Redirect: to}
			mustPart(t, "without HasRedirect", s, v, dir, "e", 2, lowLast)
		}
	}
}

// P17.2: a redirect of MaxRedirect bytes leads on, one of more does not, though it is there.
func TestPartLongRedirect(t *testing.T) {
	s, v := hills()
	long := "a-name-of-12"
	s.Lowers[0].Nodes[lowDir-1].Entries = []api.Entry{named("e", lowLast), named(long[:11], lowDir), named(long, lowDir)}
	s.Lowers[0].Nodes[root-1].Entries = append(s.Lowers[0].Nodes[root-1].Entries, named(long[:11], lowDir))
	fits := "/" + long[:11] + "/" + long[:11]
	for to, want := range map[string][]int{fits: {1, lowDir}, fits + "x": nil, "/" + long[:11] + "/" + long: nil, fits + "/e": nil, "/" + long[:11]: {1, lowDir}} {
		s.Upper.Nodes[dir-1].Attr = redirected(to)
		mustPart(t, to, s, v, dir, "e", want...)
	}
	v = seen(dir, 1, lowDir)
	s.Upper.Nodes[dir-1].Attr = redirected(long)
	mustPart(t, "a name of MaxName bytes", s, v, dir, "e", 1, lowDir)
}

// P17.2: an absolute redirect leads on from lower.Roots: not from layers beneath an opaque root, and also though the upper root is opaque.
func TestPartRedirectRoots(t *testing.T) {
	s, v := hills()
	s.Upper.Nodes[root-1].Attr = opaque()
	s.Upper.Nodes[dir-1].Attr = redirected("/d")
	mustPart(t, "an opaque upper root", s, v, dir, "e", 1, lowDir, 2, lowDir)
	mustPart(t, "in an empty view", s, seen(dir), dir, "e", 1, lowDir, 2, lowDir)
	s.Lowers[0].Nodes[root-1].Attr = opaque()
	mustPart(t, "an opaque lower root", s, v, dir, "e", 1, lowDir)
	s.Lowers[0].Nodes[root-1].Kind = api.File
	mustPart(t, "a lower root that is a File", s, v, dir, "e", 2, lowDir)
	s.Upper.Nodes[dir-1].Attr = redirected("/")
	mustPart(t, "to the root", s, v, dir, "e", 2, root)
	s.Lowers = nil
	mustPart(t, "to the root, of no lower layer", s, v, dir, "e")
}

// P17.3: an upper White, File, Link, Dir, opaque Dir, Free one, and none, above each of these, in one layer.
func TestStepPairs(t *testing.T) {
	nothing, at := api.View{}, func(layer, ino int) api.Place { return api.Place{Layer: layer, Ino: ino} }
	all := []int{lowWhite, lowFile, lowLink, lowDir, lowOpaque, lowFree, none}
	for _, under := range all {
		s := func(ino int) api.Stack { return stack(above(named("x", ino)), below(named("x", under))) }
		v := view.Root(s(free))
		mustNotStep(t, "a White", s(white), v, "x")
		mustStep(t, "a File", s(file), v, "x", api.File, nothing, at(0, file))
		mustStep(t, "a Link", s(link), v, "x", api.Link, nothing, at(0, link))
		mustStep(t, "an opaque Dir", s(opaqueDir), v, "x", api.Dir, seen(opaqueDir), at(0, opaqueDir))
		if under == lowDir || under == lowOpaque {
			mustStep(t, "a Dir over a Dir", s(dir), v, "x", api.Dir, seen(dir, 1, under), at(0, dir))
		} else {
			mustStep(t, "a Dir over no Dir", s(dir), v, "x", api.Dir, seen(dir), at(0, dir))
		}
		for _, ino := range append(sample.Far(), free, none, 0, -1, last+1) {
			switch under {
			case lowFile:
				mustStep(t, "nothing over a File", s(ino), v, "x", api.File, nothing, at(1, lowFile))
			case lowLink:
				mustStep(t, "nothing over a Link", s(ino), v, "x", api.Link, nothing, at(1, lowLink))
			case lowDir, lowOpaque:
				mustStep(t, "nothing over a Dir", s(ino), v, "x", api.Dir, seen(0, 1, under), at(1, under))
			default:
				mustNotStep(t, "nothing over nothing", s(ino), v, "x")
			}
		}
	}
}

// P17.3: over two lower layers: the View has what both have, the Place is the first one's.
func TestStepTwoLowers(t *testing.T) {
	s := stack(above(named("u", dir), named("w", white)), below(named("u", lowDir), named("d", lowDir), named("w", lowDir)), below(named("u", lowLast), named("d", lowLast), named("b", lowLast), named("f", lowFile)))
	v := view.Root(s)
	mustStep(t, "above both", s, v, "u", api.Dir, seen(dir, 1, lowDir, 2, lowLast), api.Place{Ino: dir})
	mustStep(t, "in both", s, v, "d", api.Dir, seen(0, 1, lowDir, 2, lowLast), api.Place{Layer: 1, Ino: lowDir})
	mustStep(t, "in the second", s, v, "b", api.Dir, seen(0, 2, lowLast), api.Place{Layer: 2, Ino: lowLast})
	mustStep(t, "a File in the second", s, v, "f", api.File, api.View{}, api.Place{Layer: 2, Ino: lowFile})
	mustNotStep(t, "a White above", s, v, "w")
	s.Upper.Nodes[dir-1].Attr = redirected("/b")
	mustStep(t, "with a redirect", s, v, "u", api.Dir, seen(dir, 2, lowLast), api.Place{Ino: dir})
	s.Upper.Nodes[dir-1].Attr = redirected("d")
	mustStep(t, "with a redirect by name", s, v, "u", api.Dir, seen(dir, 1, lowDir, 2, lowLast), api.Place{Ino: dir})
	s.Upper.Nodes[dir-1].Attr = redirected("f")
	mustStep(t, "with a redirect to a File", s, v, "u", api.Dir, seen(dir), api.Place{Ino: dir})
}

// P17.3: an upper node of a kind that there is not is not Free: nothing is shown by it.
func TestStepNoKind(t *testing.T) {
	for _, kind := range append(sample.Far(), -1, 5, 6) {
		s := stack(above(named("x", last), named("x", file)), below(named("x", lowFile)))
		s.Upper.Nodes[last-1].Kind = kind
		mustNotStep(t, "no kind", s, view.Root(s), "x")
		mustName(t, "no kind", s, view.Root(s))
	}
}

// P17.3: of two upper entries of one name the first one that is not Free counts, whatever their slots.
func TestStepTwoEntries(t *testing.T) {
	two := func(first, second int) api.Stack {
		return stack(above(api.Entry{Slot: 9, Ino: first, Name: "x"}, api.Entry{Slot: 4, Ino: file, Name: "y"}, api.Entry{Slot: 2, Ino: second, Name: "x"}), below(named("x", lowDir)))
	}
	v, nothing := seen(root, 1, root), api.View{}
	mustStep(t, "File, Link", two(file, link), v, "x", api.File, nothing, api.Place{Ino: file})
	mustStep(t, "Link, Dir", two(link, dir), v, "x", api.Link, nothing, api.Place{Ino: link})
	mustNotStep(t, "White, Dir", two(white, dir), v, "x")
	mustStep(t, "Dir, White", two(dir, white), v, "x", api.Dir, seen(dir, 1, lowDir), api.Place{Ino: dir})
	mustStep(t, "opaque Dir, Dir", two(opaqueDir, dir), v, "x", api.Dir, seen(opaqueDir), api.Place{Ino: opaqueDir})
	for _, ino := range append(sample.Far(), free, none, 0, -1, last+1) {
		mustStep(t, "none, File", two(ino, file), v, "x", api.File, nothing, api.Place{Ino: file})
		mustStep(t, "none, Dir", two(ino, dir), v, "x", api.Dir, seen(dir, 1, lowDir), api.Place{Ino: dir})
		mustNotStep(t, "none, White", two(ino, white), v, "x")
		mustStep(t, "none, none", two(ino, free), v, "x", api.Dir, seen(0, 1, lowDir), api.Place{Layer: 1, Ino: lowDir})
		mustStep(t, "Link, none", two(link, ino), v, "x", api.Link, nothing, api.Place{Ino: link})
	}
}

// P17.3: of a name that is nowhere, or not right; but names are asked as they are, also such as no image holds.
func TestStepNames(t *testing.T) {
	s := stack(above(named("x", file), named("xx", link)), below(named("y", lowFile), named("yy", lowLink)))
	v := view.Root(s)
	strange := []string{"", "z", "X", "x ", " x", "x\x00", "/x", "x/", "/", ".", "..", "xxx", "x/x", "é", "\xff", "a-very-long-name-that-is-none"}
	for _, name := range strange {
		mustNotStep(t, "nowhere", s, v, name)
	}
	for _, name := range strange {
		s := stack(above(named(name, file)), below())
		mustStep(t, "a strange upper name", s, view.Root(s), name, api.File, api.View{}, api.Place{Ino: file})
		mustName(t, "a strange upper name", s, view.Root(s), name)
		s = stack(above(named(name, dir)), below(named(name, lowDir)))
		mustStep(t, "a strange name", s, view.Root(s), name, api.Dir, seen(dir, 1, lowDir), api.Place{Ino: dir})
		s.Upper = above()
		mustStep(t, "a strange lower name", s, view.Root(s), name, api.Dir, seen(0, 1, lowDir), api.Place{Layer: 1, Ino: lowDir})
		mustName(t, "a strange lower name", s, view.Root(s), name)
	}
}

// P17.3: a View whose Upper is 0, not there, or no Dir, and one whose Lower is empty.
func TestStepViews(t *testing.T) {
	s := stack(above(named("x", file)), below(named("x", lowDir), named("y", lowLink)))
	for _, ino := range []int{white, file, link, free} {
		s.Upper.Nodes[ino-1].Entries = []api.Entry{named("x", link), named("y", white), named("z", file)}
		s.Upper.Nodes[ino-1].Attr = opaque()
	}
	for _, upper := range append(sample.Far(), 0, -1, last+1, none, white, file, link, free) {
		v := seen(upper, 1, root)
		mustStep(t, "no Upper", s, v, "x", api.Dir, seen(0, 1, lowDir), api.Place{Layer: 1, Ino: lowDir})
		mustStep(t, "no Upper", s, v, "y", api.Link, api.View{}, api.Place{Layer: 1, Ino: lowLink})
		mustNotStep(t, "no Upper", s, v, "z")
		mustName(t, "no Upper", s, v, "x", "y")
		mustNotStep(t, "no Upper, and nothing beneath", s, seen(upper), "x")
		mustName(t, "no Upper, and nothing beneath", s, seen(upper))
	}
	for _, v := range []api.View{seen(root), {Upper: root, Lower: []api.Place{}}, seen(root, 1, lowFile), seen(root, 0, root), seen(root, 9, root)} {
		mustStep(t, "nothing beneath", s, v, "x", api.File, api.View{}, api.Place{Ino: file})
		mustNotStep(t, "nothing beneath", s, v, "y")
		mustName(t, "nothing beneath", s, v, "x")
	}
	s.Upper.Nodes[root-1].Attr = opaque()
	mustStep(t, "an opaque Upper, of a view with something beneath", s, seen(root, 1, root), "y", api.Link, api.View{}, api.Place{Layer: 1, Ino: lowLink})
}

// P17.3: names that are hidden, that stand above and beneath, that are told twice; rising by bytes.
func TestNames(t *testing.T) {
	s := stack(
		above(named("z", dir), named("gone", white), named("b", file), named("free", free), named("none", none), named("b", link), named("lone", white), named("new", opaqueDir), named("é", file), named("Z", file)),
		below(named("gone", lowFile), named("b", lowWhite), named("a", lowLink), named("z", lowFile), named("z2", lowWhite), named("free", lowDir), named("9", lowFree)),
		below(named("gone", lowDir), named("z", lowDir), named("z2", lowFile), named("free", lowFile), named("a-", lowFile), named("a.", lowDir), named("none", lowFile), named("9", lowDir)),
	)
	mustName(t, "all", s, view.Root(s), "9", "Z", "a", "a-", "a.", "b", "free", "new", "none", "z", "é")
	mustName(t, "the upper one alone", s, seen(root), "Z", "b", "new", "z", "é")
	mustName(t, "the first lower one", s, seen(0, 1, root), "a", "free", "gone", "z")
	mustName(t, "the second lower one beneath", s, seen(root, 2, root), "9", "Z", "a-", "a.", "b", "free", "new", "none", "z", "z2", "é")
	mustName(t, "no view", s, api.View{})
	mustName(t, "no entries", stack(above(), below()), seen(root, 1, root))
	mustName(t, "no stack", api.Stack{}, seen(root, 1, root))
	mustNotStep(t, "the chapter's example", stack(above(named("x", white)), below(named("x", lowDir))), seen(root, 1, root), "x")
	mustName(t, "the chapter's example", stack(above(named("x", white)), below(named("x", lowDir))), seen(root, 1, root))
	mustName(t, "White, File", stack(above(named("x", white), named("x", file)), below()), seen(root, 1, root))
	mustName(t, "File, White", stack(above(named("x", file), named("x", white)), below()), seen(root, 1, root), "x")
}

// P17.4: of a root that is no Dir.
func TestTreeNoDir(t *testing.T) {
	for _, kind := range append(sample.Far(), api.Free, api.File, api.Link, api.White, -1, 5) {
		s := stack(above(named("x", dir)), below(named("x", lowDir)))
		s.Upper.Nodes[0].Kind = kind
		mustTree(t, "no Dir", s, nil, nil)
	}
	mustTree(t, "no nodes", stack(api.Branch{}, below()), nil, nil)
	mustTree(t, "nothing", api.Stack{}, nil, nil)
}

// P17.4: the root alone, directories in it, and in these, by name and by redirect.
func TestTree(t *testing.T) {
	s, _ := hills()
	top := api.Way{Ino: root, Up: -1}
	mustTree(t, "the root alone", s, []api.Way{top}, []api.View{seen(root, 1, root, 2, root)})
	s.Upper = above(named("f", file), named("d", dir), named("w", white), named("z", opaqueDir), named("free", free))
	s.Upper.Nodes[dir-1].Entries = []api.Entry{named("l", link), named("e", last)}
	s.Upper.Nodes[last-1].Entries = []api.Entry{named("deep", api.Work)}
	s.Upper.Nodes[opaqueDir-1].Entries = []api.Entry{named("d", api.Index)}
	ways := []api.Way{top, {Ino: dir, Name: "d"}, {Ino: opaqueDir, Name: "z"}, {Ino: last, Up: 1, Name: "e"}, {Ino: api.Index, Up: 2, Name: "d"}, {Ino: api.Work, Up: 3, Name: "deep"}}
	views := []api.View{seen(root, 1, root, 2, root), seen(dir, 1, lowDir, 2, lowDir), seen(opaqueDir), seen(last, 1, lowLast, 2, lowLast), seen(api.Index), seen(api.Work)}
	mustTree(t, "by name", s, ways, views)
	s.Upper.Nodes[api.Work-1].Attr = redirected("/q")
	s.Upper.Nodes[api.Index-1].Attr = redirected("/d")
	views[4].Lower, views[5].Lower = places(1, lowDir, 2, lowDir), places(2, lowOpaque)
	mustTree(t, "by redirects, deep", s, ways, views)
	s.Upper.Nodes[dir-1].Attr = redirected("q")
	views[1].Lower, views[3].Lower = places(2, lowOpaque), nil
	mustTree(t, "with one further up", s, ways, views)
	s.Upper.Nodes[root-1].Attr = opaque()
	views[0].Lower, views[1].Lower = nil, nil
	mustTree(t, "with an opaque root", s, ways, views)
}

// P17.4: a directory that is named twice has the view of where it was come to first; one that names what is ahead of it brings none.
func TestTreeTwice(t *testing.T) {
	s, _ := hills()
	s.Upper = above(named("q", dir), named("d", dir), named("o", last), named("self", root))
	s.Upper.Nodes[last-1].Entries = []api.Entry{named("d", dir), named("up", root), named("w", opaqueDir)}
	s.Upper.Nodes[dir-1].Entries = []api.Entry{named("self", dir)}
	mustTree(t, "twice", s,
		[]api.Way{{Ino: root, Up: -1}, {Ino: dir, Name: "q"}, {Ino: last, Name: "o"}, {Ino: opaqueDir, Up: 2, Name: "w"}},
		[]api.View{seen(root, 1, root, 2, root), seen(dir, 2, lowOpaque), seen(last, 1, lowOpaque), seen(opaqueDir)})
}

// P17.4: a directory behind another entry of its name is of the tree, though no step leads to it.
func TestTreeHidden(t *testing.T) {
	s, _ := hills()
	s.Upper = above(named("d", white), named("d", dir))
	mustTree(t, "hidden", s, []api.Way{{Ino: root, Up: -1}, {Ino: dir, Name: "d"}}, []api.View{seen(root, 1, root, 2, root), seen(dir, 1, lowDir, 2, lowDir)})
}

func letters() []string {
	return []string{"a", "b", "c", "d", ""}
}

func someNode(r *rand.Rand, nodes int) api.Node {
	n := api.Node{Kind: []int{0, 1, 1, 1, 1, 1, 2, 3, 4, 5}[r.Intn(10)]}
	switch r.Intn(4) {
	case 0:
		to := []string{"/a", "/b", "/a/b", "/", "a", "b", "c", "/d/a", "", "//", "."}
		n.Attr = api.Attr{Has: r.Intn(16) * 2, Redirect: to[r.Intn(len(to))]}
	case 1:
		n.Attr = api.Attr{Has: r.Intn(2), Opaque: api.Mark - r.Intn(4)/3}
	}
	for range r.Intn(9) {
		n.Entries = append(n.Entries, api.Entry{Slot: r.Intn(16), Ino: r.Intn(nodes + 2), Name: letters()[r.Intn(5)]})
	}
	return n
}

// some is a stack of any layers, of few names and nodes, so that they often meet.
func some(r *rand.Rand) api.Stack {
	branch := func() api.Branch {
		l := make([]api.Node, 1+r.Intn(7))
		for i := range l {
			l[i] = someNode(r, len(l))
		}
		l[0].Kind = []int{1, 1, 1, 1, 1, 1, 2, 0}[r.Intn(8)]
		return api.Branch{Nodes: l}
	}
	s := api.Stack{Upper: branch()}
	for range r.Intn(4) {
		s.Lowers = append(s.Lowers, branch())
	}
	return s
}

func someView(r *rand.Rand, s api.Stack) api.View {
	if _, views := view.Tree(s); len(views) > 0 && r.Intn(4) != 0 {
		return views[r.Intn(len(views))]
	}
	v := api.View{Upper: r.Intn(9) - 1}
	for range r.Intn(5) {
		v.Lower = append(v.Lower, api.Place{Layer: r.Intn(len(s.Lowers) + 2), Ino: r.Intn(9)})
	}
	return v
}

// node is an upper node by a second reading of the chapter, as all that follows here.
func node(s api.Stack, ino int) api.Node {
	for i, n := range s.Upper.Nodes {
		if i+1 == ino {
			return n
		}
	}
	return api.Node{}
}

func isOpaque(n api.Node) bool {
	return n.Kind == 1 && n.Attr.Has%2 == 1 && n.Attr.Opaque == 121
}

func modelPart(s api.Stack, v api.View, ino int, name string) []api.Place {
	n := node(s, ino)
	from, names := v.Lower, []string{name}
	if n.Kind != 1 || isOpaque(n) {
		return nil
	}
	if n.Attr.Has&2 == 2 {
		l, absolute, ok := path.Redirect(n.Attr.Redirect)
		if !ok {
			return nil
		}
		names = l
		if absolute {
			from = lower.Roots(s)
		}
	}
	found, _ := lower.Look(s, from, names)
	return found
}

func modelStep(s api.Stack, v api.View, name string) (int, api.View, api.Place) {
	kind, l := lower.Find(s, v.Lower, name)
	to, at := api.View{}, api.Place{}
	if kind != 0 {
		at = l[0]
	}
	if kind == 1 {
		to.Lower = l
	}
	entries := slices.Clone(node(s, v.Upper).Entries)
	slices.Reverse(entries)
	for _, e := range entries { // the first one has the last word
		n := node(s, e.Ino)
		if node(s, v.Upper).Kind != 1 || e.Name != name || n.Kind == 0 {
			continue
		}
		kind, to, at = n.Kind, api.View{}, api.Place{Ino: e.Ino}
		switch kind {
		case 1:
			to = api.View{Upper: e.Ino, Lower: modelPart(s, v, e.Ino, name)}
		case 2, 3:
		default:
			kind, at = 0, api.Place{}
		}
	}
	return kind, to, at
}

func modelRoot(s api.Stack) api.View {
	n := node(s, 1)
	switch {
	case n.Kind != 1:
		return api.View{Lower: lower.Roots(s)}
	case isOpaque(n):
		return api.View{Upper: 1}
	}
	return api.View{Upper: 1, Lower: lower.Roots(s)}
}

func modelTree(s api.Stack) ([]api.Way, []api.View) {
	ways, views := walk.Dirs(s.Upper, 1), []api.View{}
	for _, w := range ways {
		v := modelRoot(s)
		if w.Up != -1 {
			v = api.View{Upper: w.Ino, Lower: modelPart(s, views[w.Up], w.Ino, w.Name)}
		}
		views = append(views, v)
	}
	return ways, views
}

// P17.1 to P17.5: many stacks, held against the model; what is named is found, what is found is named.
func TestMany(t *testing.T) {
	r := rand.New(rand.NewSource(1))
	met := map[int]int{}
	for range 20000 {
		s := some(r)
		mustRoot(t, "any stack", s, modelRoot(s))
		ways, views := modelTree(s)
		mustTree(t, "any stack", s, ways, views)
		v := someView(r, s)
		var names []string
		for _, name := range append(letters(), "e", "A", "..") {
			kind, to, at := modelStep(s, v, name)
			mustStep(t, "any stack", s, v, name, kind, to, at)
			if kind != 0 {
				names = append(names, name)
			}
			if kind == 1 && to.Upper != 0 && len(to.Lower) > 0 {
				kind = 9
			}
			met[kind]++
			for ino := range len(s.Upper.Nodes) + 2 {
				p := modelPart(s, v, ino, name)
				if got := view.Part(s, v, ino, name); !slices.Equal(got, p) {
					t.Errorf("Part(%v, %v, %d, %q): %v, not %v", s, v, ino, name, got, p)
				}
			}
		}
		slices.Sort(names)
		mustName(t, "any stack", s, v, names...)
		if t.Failed() {
			t.Fatal(s)
		}
	}
	for _, kind := range []int{0, 1, 2, 3, 9} {
		if met[kind] < 1000 {
			t.Fatal(met)
		}
	}
}

// P17.5: all that Names tells is found by Step, and nothing else is.
func TestNamesAreFound(t *testing.T) {
	r := rand.New(rand.NewSource(2))
	for range 3000 {
		s := some(r)
		v := someView(r, s)
		told := view.Names(s, v)
		if !slices.IsSorted(told) || len(slices.Compact(slices.Clone(told))) != len(told) {
			t.Errorf("Names(%v, %v): %q", s, v, told)
		}
		for _, name := range append(letters(), "e", "..") {
			if kind, _, _ := view.Step(s, v, name); (kind != 0) != slices.Contains(told, name) {
				t.Errorf("Names(%v, %v): %q, but %q is %d", s, v, told, name, kind)
			}
		}
	}
}

// P17.1 to P17.4: the layout is not asked.
func TestAsksNoLayout(t *testing.T) {
	for _, g := range []api.Geo{{}, {Lowers: -1}, {Lowers: 1, Inodes: 1}, {Lowers: math.MaxInt, Inodes: math.MaxInt}} {
		s := stack(above(named("x", dir)), below(named("x", lowDir)), below(named("x", lowDir)), below(named("x", lowDir)), below(named("x", lowDir)))
		s.Geo = g
		mustStep(t, "another layout", s, view.Root(s), "x", api.Dir, seen(dir, 1, lowDir, 2, lowDir, 3, lowDir, 4, lowDir), api.Place{Ino: dir})
		mustName(t, "another layout", s, view.Root(s), "x")
	}
}

// shared is a stack with all that a view can be made of: by name, by both redirects, and of lower ones alone.
func shared() (api.Stack, api.View) {
	s, _ := hills()
	s.Upper = above(named("d", dir), named("a", last), named("b", api.Work), named("c", api.Index), named("x", file))
	s.Upper.Nodes[last-1].Attr = redirected("/")
	s.Upper.Nodes[api.Work-1].Attr = redirected("q")
	s.Upper.Nodes[api.Index-1].Attr = redirected("/d/e")
	return s, view.Root(s)
}

// lists is all lists of Places that the calls answer of shared.
func lists(s api.Stack, v api.View) [][]api.Place {
	l := [][]api.Place{view.Root(s).Lower, view.Part(s, v, dir, "d"), view.Part(s, v, last, "d"), view.Part(s, v, api.Work, "d"), view.Part(s, v, api.Index, "d")}
	for _, name := range []string{"d", "a", "b", "c", "q"} {
		_, to, _ := view.Step(s, v, name)
		l = append(l, to.Lower)
	}
	_, views := view.Tree(s)
	for _, x := range views {
		l = append(l, x.Lower)
	}
	return l
}

// What is handed in stays as it is, and answers share no memory with it, nor with one another.
func TestAnswersShareNothing(t *testing.T) {
	s, v := shared()
	want := lists(s, v)
	got := lists(s, v)
	for i, p := range got {
		if len(p) == 0 {
			t.Fatal(i)
		}
		clear(p[:cap(p)])
		for k, other := range got {
			if k > i && !slices.Equal(other, want[k]) {
				t.Errorf("lists %d and %d are one", i, k)
			}
		}
	}
	names := view.Names(s, v)
	clear(names[:cap(names)])
	ways, _ := view.Tree(s)
	clear(ways[:cap(ways)])
	again, w := shared()
	if !reflect.DeepEqual(s, again) || !same(v, w) {
		t.Error("what was handed in is changed")
	}
	if !reflect.DeepEqual(lists(s, v), want) {
		t.Errorf("%v, not %v", lists(s, v), want)
	}
	_, to, _ := view.Step(s, v, "d")
	part := view.Part(s, v, dir, "d")
	clear(v.Lower)
	if !slices.Equal(to.Lower, places(1, lowDir, 2, lowDir)) || !slices.Equal(part, places(1, lowDir, 2, lowDir)) {
		t.Error("answers change with the view")
	}
}
