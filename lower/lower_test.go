package lower_test

import (
	"math"
	"math/rand"
	"reflect"
	"slices"
	"testing"

	"craquelure/api"
	"craquelure/lower"
	"craquelure/sample"
)

// Inodes of the layers that the tests of single calls are made of; those of directories are where lists begin.
const (
	root, white, file, link, dir, opaqueDir, free = 1, 2, 3, 4, 5, 6, 7
	last                                          = 8
)

func opaque() api.Attr {
	return api.Attr{Has: api.HasOpaque, Opaque: api.Mark}
}

// layer is a layer that has a node of each kind, and a root with these entries; a name "" is none.
func layer(entries ...api.Entry) api.Branch {
	l := make([]api.Node, last)
	for ino, kind := range map[int]int{white: api.White, file: api.File, link: api.Link, dir: api.Dir, opaqueDir: api.Dir, last: api.Dir} {
		l[ino-1] = api.Node{Kind: kind, Nlink: 1}
	}
	l[opaqueDir-1].Attr = opaque()
	l[root-1] = api.Node{Kind: api.Dir, Nlink: 2, Entries: entries}
	return api.Branch{Nodes: l}
}

// named is an entry "x" of that inode.
func named(ino int) []api.Entry {
	return []api.Entry{{Ino: ino, Name: "x"}}
}

func stack(lowers ...api.Branch) api.Stack {
	return api.Stack{Geo: api.Geo{Lowers: len(lowers), Inodes: last, Blocks: 9, Log: 5}, Upper: layer(api.Entry{Ino: file, Name: "x"}), Lowers: lowers}
}

// roots is the first root of each layer of a stack, whatever it is.
func roots(s api.Stack) []api.Place {
	var l []api.Place
	for i := range s.Lowers {
		l = append(l, api.Place{Layer: i + 1, Ino: root})
	}
	return l
}

func places(l ...int) []api.Place {
	var p []api.Place
	for i := 0; i < len(l); i += 2 {
		p = append(p, api.Place{Layer: l[i], Ino: l[i+1]})
	}
	return p
}

func mustRoots(t *testing.T, why string, s api.Stack, want ...int) {
	t.Helper()
	var l []api.Place
	for _, n := range want {
		l = append(l, api.Place{Layer: n, Ino: root})
	}
	if got := lower.Roots(s); !slices.Equal(got, l) {
		t.Errorf("%s: Roots: %v, not %v", why, got, l)
	}
}

func mustFind(t *testing.T, why string, s api.Stack, l []api.Place, name string, kind int, want ...int) {
	t.Helper()
	if k, p := lower.Find(s, l, name); k != kind || !slices.Equal(p, places(want...)) {
		t.Errorf("%s: Find(%v, %q): %d, %v, not %d, %v", why, l, name, k, p, kind, want)
	}
}

func mustLook(t *testing.T, why string, s api.Stack, l []api.Place, names []string, want ...int) {
	t.Helper()
	if p, ok := lower.Look(s, l, names); !ok || !slices.Equal(p, places(want...)) {
		t.Errorf("%s: Look(%v, %q): %v, %v, not %v", why, l, names, p, ok, want)
	}
}

func mustNotLook(t *testing.T, why string, s api.Stack, l []api.Place, names ...string) {
	t.Helper()
	if p, ok := lower.Look(s, l, names); ok || len(p) != 0 {
		t.Errorf("%s: Look(%v, %q): %v, %v", why, l, names, p, ok)
	}
}

func mustName(t *testing.T, why string, s api.Stack, l []api.Place, want ...string) {
	t.Helper()
	if got := lower.Names(s, l); !slices.Equal(got, want) {
		t.Errorf("%s: Names(%v): %q, not %q", why, l, got, want)
	}
}

// P16.1: all roots; those that are no Dir, at each place, are not told.
func TestRoots(t *testing.T) {
	mustRoots(t, "no lower layer", stack())
	mustRoots(t, "nothing at all", api.Stack{})
	mustRoots(t, "no nodes", stack(api.Branch{}, api.Branch{Nodes: []api.Node{}}))
	mustRoots(t, "one", stack(layer()), 1)
	mustRoots(t, "all", stack(layer(), layer(), layer()), 1, 2, 3)
	mustRoots(t, "more than a layout has", stack(layer(), layer(), layer(), layer(), layer()), 1, 2, 3, 4, 5)
	mustRoots(t, "some without nodes", stack(api.Branch{}, layer(), api.Branch{}), 2)
	for _, kind := range append(sample.Far(), api.Free, api.File, api.Link, api.White, -1, 5) {
		for at := range 3 {
			s := stack(layer(), layer(), layer())
			s.Lowers[at].Nodes[0].Kind = kind
			want := slices.Delete([]int{1, 2, 3}, at, at+1)
			mustRoots(t, "no Dir", s, want...)
			s.Lowers[at].Nodes[0].Attr = opaque()
			mustRoots(t, "no Dir, with an opaque mark", s, want...)
			s.Upper = api.Branch{}
			s.Geo = api.Geo{}
			mustRoots(t, "no upper layer, and no layout", s, want...)
		}
	}
}

// P16.1: the first, a middle and the last root are opaque; of several the first one ends it, if it is a Dir.
func TestRootsOpaque(t *testing.T) {
	for end, want := range [][]int{{1}, {1, 2}, {1, 2, 3}} {
		s := stack(layer(), layer(), layer())
		s.Lowers[end].Nodes[0].Attr = opaque()
		mustRoots(t, "one is opaque", s, want...)
	}
	for mask := range 64 {
		s := stack(layer(), layer(), layer())
		var want []int
		ended := false
		for at := range 3 {
			isOpaque, isFile := mask>>at&1 == 1, mask>>at&8 == 8
			if isOpaque {
				s.Lowers[at].Nodes[0].Attr = opaque()
			}
			if isFile {
				s.Lowers[at].Nodes[0].Kind = api.File
			}
			if !isFile && !ended {
				want = append(want, at+1)
				ended = isOpaque
			}
		}
		mustRoots(t, "some are opaque, some no Dirs", s, want...)
	}
}

// attrs is attributes of which a node is opaque, or not.
func attrs() map[api.Attr]bool {
	return map[api.Attr]bool{
		{}:                                     false,
		{Has: api.HasOpaque, Opaque: api.Mark}: true,
		{Has: 31, Opaque: api.Mark, Redirect: "/x", Shown: 3}:                  true,
		{Has: -1, Opaque: api.Mark}:                                            true,
		{Has: 33, Opaque: api.Mark}:                                            true,
		{Has: api.HasOpaque}:                                                   false,
		{Has: api.HasOpaque, Opaque: 1}:                                        false,
		{Has: api.HasOpaque, Opaque: api.Mark + 1}:                             false,
		{Has: api.HasOpaque, Opaque: api.Mark - 1}:                             false,
		{Has: api.HasOpaque, Opaque: api.Mark + 256}:                           false,
		{Has: api.HasOpaque, Opaque: -api.Mark}:                                false,
		{Has: 31, Opaque: 255}:                                                 false,
		{Opaque: api.Mark}:                                                     false,
		{Has: 30, Opaque: api.Mark}:                                            false,
		{Has: -2, Opaque: api.Mark}:                                            false,
		{Has: 32, Opaque: api.Mark}:                                            false,
		{Has: api.HasRedirect, Opaque: api.Mark, Redirect: "x"}:                false,
		{Has: api.HasShown, Opaque: api.Mark, Shown: 1}:                        false,
		{Has: api.HasOrigin, Opaque: api.Mark, Origin: api.Origin{Layer: 1}}:   false,
		{Has: api.HasOpaque | api.HasMeta, Opaque: 0, Shown: api.Mark}:         false,
		{Has: api.HasOpaque | api.HasRedirect, Opaque: api.Mark, Redirect: ""}: true,
	}
}

// P16.1, P16.2: an opaque mark that is not Mark, or without HasOpaque, is none.
func TestOpaqueMarks(t *testing.T) {
	for a, is := range attrs() {
		s := stack(layer(named(dir)...), layer(named(dir)...))
		s.Lowers[0].Nodes[root-1].Attr = a
		if is {
			mustRoots(t, "opaque", s, 1)
		} else {
			mustRoots(t, "not opaque", s, 1, 2)
		}
		s.Lowers[0].Nodes[root-1].Attr = api.Attr{}
		s.Lowers[0].Nodes[dir-1].Attr = a
		if is {
			mustFind(t, "opaque", s, roots(s), "x", api.Dir, 1, dir)
		} else {
			mustFind(t, "not opaque", s, roots(s), "x", api.Dir, 1, dir, 2, dir)
		}
	}
}

// P16.2: whether the directories of the list are opaque is not asked, but just that of those that are found.
func TestFindAsksNoListOpaque(t *testing.T) {
	s := stack(layer(), layer(named(dir)...), layer(named(dir)...))
	for i := range s.Lowers {
		s.Lowers[i].Nodes[0].Attr = opaque()
	}
	mustFind(t, "in opaque ones", s, roots(s), "x", api.Dir, 2, dir, 3, dir)
}

// P16.2: nodes of all kinds of one name above one another, in each order of two and of three.
func TestFindOrders(t *testing.T) {
	kinds := []int{white, file, link, dir, opaqueDir, free, 99}
	told := map[int]int{file: api.File, link: api.Link, dir: api.Dir, opaqueDir: api.Dir}
	for _, a := range kinds {
		for _, b := range kinds {
			for _, c := range kinds {
				s := stack(layer(named(a)...), layer(named(b)...), layer(named(c)...))
				kind, want := 0, []int{}
				for i, ino := range []int{a, b, c} {
					if ino == free || ino == 99 {
						continue
					}
					isDir := told[ino] == api.Dir
					if ino != white && (kind == 0 || isDir) {
						kind = told[ino]
						want = append(want, i+1, ino)
					}
					if !isDir || ino == opaqueDir {
						break
					}
				}
				mustFind(t, "three", s, roots(s), "x", kind, want...)
			}
		}
	}
}

// P16.2: the same, said outright.
func TestFindPairs(t *testing.T) {
	pairs := []struct {
		above, below, kind int
		want               []int
	}{
		{white, file, 0, nil}, // the chapter's example
		{white, link, 0, nil},
		{white, dir, 0, nil},
		{white, white, 0, nil},
		{file, white, api.File, []int{1, file}},
		{file, file, api.File, []int{1, file}},
		{file, link, api.File, []int{1, file}},
		{file, dir, api.File, []int{1, file}},
		{link, white, api.Link, []int{1, link}},
		{link, file, api.Link, []int{1, link}},
		{link, dir, api.Link, []int{1, link}},
		{dir, white, api.Dir, []int{1, dir}},
		{dir, file, api.Dir, []int{1, dir}},
		{dir, link, api.Dir, []int{1, dir}},
		{dir, dir, api.Dir, []int{1, dir, 2, dir}},
		{dir, opaqueDir, api.Dir, []int{1, dir, 2, opaqueDir}},
		{opaqueDir, dir, api.Dir, []int{1, opaqueDir}},
		{opaqueDir, file, api.Dir, []int{1, opaqueDir}},
		{free, file, api.File, []int{2, file}},
		{free, dir, api.Dir, []int{2, dir}},
		{free, white, 0, nil},
		{free, free, 0, nil},
		{dir, free, api.Dir, []int{1, dir}},
	}
	for _, c := range pairs {
		s := stack(layer(named(c.above)...), layer(named(c.below)...))
		mustFind(t, "two", s, roots(s), "x", c.kind, c.want...)
	}
}

// P16.2: a White or a File ends it also behind Dirs, and an opaque Dir among others, so that what is below them is not told.
func TestFindEnds(t *testing.T) {
	for _, end := range []int{white, file, link, opaqueDir} {
		s := stack(layer(named(dir)...), layer(named(end)...), layer(named(dir)...), layer(named(dir)...))
		want := []int{1, dir}
		if end == opaqueDir {
			want = append(want, 2, opaqueDir)
		}
		mustFind(t, "an end between", s, roots(s), "x", api.Dir, want...)
		mustFind(t, "below it", s, roots(s)[2:], "x", api.Dir, 3, dir, 4, dir)
	}
	s := stack(layer(named(dir)...), layer(), layer(named(free)...), layer(named(dir)...))
	mustFind(t, "nothing between", s, roots(s), "x", api.Dir, 1, dir, 4, dir)
}

// P16.2: of a name that is nowhere, and of names that are not right.
func TestFindNames(t *testing.T) {
	s := stack(layer(named(file)...), layer(api.Entry{Ino: dir, Name: "xx"}, api.Entry{Ino: file, Name: "a.b"}))
	for _, name := range []string{"", "y", "X", "x ", " x", "x\x00", "/x", "x/", "/", ".", "..", "a-b", "xxx", "a", "é", "\xff", "a-very-long-name-that-is-none"} {
		mustFind(t, "nowhere", s, roots(s), name, 0)
		mustNotLook(t, "nowhere", s, roots(s), name)
		mustFind(t, "in no list", s, nil, name, 0)
	}
	mustFind(t, "one that begins with another", s, roots(s), "xx", api.Dir, 2, dir)
	mustFind(t, "another", s, roots(s), "a.b", api.File, 2, file)
	mustFind(t, "the first", s, roots(s), "x", api.File, 1, file)
}

// P16.2: names of entries are asked as they are, also those that no image holds.
func TestFindStrangeNames(t *testing.T) {
	for _, name := range []string{"", ".", "..", "A", "/", "a/b", "\xff", "a-very-long-name-that-is-none"} {
		s := stack(layer(api.Entry{Ino: dir, Name: name}), layer(api.Entry{Ino: dir, Name: name}))
		mustFind(t, "a strange name", s, roots(s), name, api.Dir, 1, dir, 2, dir)
		mustLook(t, "a strange name", s, roots(s), []string{name}, 1, dir, 2, dir)
		mustName(t, "a strange name", s, roots(s), name)
	}
}

// P16.2: of two entries of one name in one directory the first one that is not Free counts, whatever their slots.
func TestFindTwoEntries(t *testing.T) {
	two := func(first, second int) api.Stack {
		return stack(layer(api.Entry{Slot: 9, Ino: first, Name: "x"}, api.Entry{Slot: 3, Ino: dir, Name: "y"}, api.Entry{Slot: 0, Ino: second, Name: "x"}), layer(named(dir)...))
	}
	l := places(1, root, 2, root)
	mustFind(t, "File, Link", two(file, link), l, "x", api.File, 1, file)
	mustFind(t, "Link, File", two(link, file), l, "x", api.Link, 1, link)
	mustFind(t, "White, File", two(white, file), l, "x", 0)
	mustFind(t, "File, White", two(file, white), l, "x", api.File, 1, file)
	mustFind(t, "Dir, opaque Dir", two(dir, opaqueDir), l, "x", api.Dir, 1, dir, 2, dir)
	mustFind(t, "Dir, Dir", two(dir, last), l, "x", api.Dir, 1, dir, 2, dir)
	mustFind(t, "Dir, White", two(dir, white), l, "x", api.Dir, 1, dir, 2, dir)
	mustFind(t, "Dir, File", two(dir, file), l, "x", api.Dir, 1, dir, 2, dir)
	mustFind(t, "Free, File", two(free, file), l, "x", api.File, 1, file)
	mustFind(t, "none, White", two(0, white), l, "x", 0)
	mustFind(t, "none, Free", two(99, free), l, "x", api.Dir, 2, dir)
}

// P16.2: an entry whose inode is none is as one of a Free node.
func TestFindNoNode(t *testing.T) {
	for _, ino := range append(sample.Far(), -1, 0, last+1, last+2) {
		s := stack(layer(named(ino)...), layer(named(file)...))
		mustFind(t, "none, above a File", s, roots(s), "x", api.File, 2, file)
		mustFind(t, "none alone", s, roots(s)[:1], "x", 0)
		mustName(t, "none, above a File", s, roots(s), "x")
		mustName(t, "none alone", s, roots(s)[:1])
	}
	s := stack(layer(named(last)...), layer(named(last)...))
	mustFind(t, "the last one", s, roots(s), "x", api.Dir, 1, last, 2, last)
	mustFind(t, "the root itself", stack(layer(named(root)...)), places(1, root), "x", api.Dir, 1, root)
}

// P16.2: a kind that there is not is neither told, nor does it end anything; but it is not Free.
func TestFindNoKind(t *testing.T) {
	for _, kind := range append(sample.Far(), -1, 5, 6) {
		s := stack(layer(append(named(free), named(dir)...)...), layer(named(dir)...))
		s.Lowers[0].Nodes[free-1] = api.Node{Kind: kind, Attr: opaque(), Entries: named(file)}
		mustFind(t, "no kind", s, roots(s), "x", api.Dir, 2, dir)
		mustFind(t, "in one of no kind", s, places(1, free, 2, root), "x", api.Dir, 2, dir)
	}
}

// nowhere is Places that are no directories of s.
func nowhere(s api.Stack) []api.Place {
	l := places(0, root, 0, dir, -1, root, len(s.Lowers)+1, root, 1, 0, 1, -1, 1, last+1, 1, white, 1, file, 1, link, 1, free, 0, 0)
	for _, n := range sample.Far() {
		l = append(l, places(n, root, 1, n, n, n, 0, n)...)
	}
	return l
}

// P16.2, P16.3: Places of the upper layer, of one behind the last, and of what is no Dir, count as empty directories.
func TestListOfNone(t *testing.T) {
	s := stack(layer(named(dir)...), layer(named(dir)...))
	for _, ino := range []int{white, file, link, free} {
		s.Lowers[0].Nodes[ino-1].Entries = named(white)
		s.Lowers[0].Nodes[ino-1].Attr = opaque()
	}
	for _, p := range nowhere(s) {
		one := []api.Place{p}
		mustFind(t, "none", s, one, "x", 0)
		mustNotLook(t, "none", s, one, "x")
		mustName(t, "none", s, one)
		mustLook(t, "none, of no names", s, one, nil, p.Layer, p.Ino)
		for at := range 3 {
			l := slices.Insert(roots(s), at, p)
			mustFind(t, "none among others", s, l, "x", api.Dir, 1, dir, 2, dir)
			mustLook(t, "none among others", s, l, []string{"x"}, 1, dir, 2, dir)
			mustName(t, "none among others", s, l, "x")
		}
	}
	mustFind(t, "all of none", s, nowhere(s), "x", 0)
	mustName(t, "all of none", s, nowhere(s))
	mustFind(t, "no stack", api.Stack{}, roots(s), "x", 0)
	mustName(t, "no stack", api.Stack{}, roots(s))
	mustNotLook(t, "no stack", api.Stack{}, roots(s), "x")
}

// P16.2, P16.3: a list of none, and one that has a Place twice, which is told twice.
func TestListTwice(t *testing.T) {
	s := stack(layer(named(dir)...), layer(named(file)...), layer(named(opaqueDir)...))
	s.Lowers[0].Nodes[dir-1].Entries = named(dir)
	for _, l := range [][]api.Place{nil, {}} {
		mustFind(t, "of none", s, l, "x", 0)
		mustLook(t, "of none", s, l, nil)
		mustNotLook(t, "of none", s, l, "x")
		mustName(t, "of none", s, l)
	}
	mustFind(t, "a Dir twice", s, places(1, root, 1, root), "x", api.Dir, 1, dir, 1, dir)
	mustFind(t, "a Dir twice, and a File", s, places(1, root, 2, root, 1, root), "x", api.Dir, 1, dir)
	mustFind(t, "a File twice", s, places(2, root, 2, root), "x", api.File, 2, file)
	mustFind(t, "an opaque Dir twice", s, places(3, root, 3, root), "x", api.Dir, 3, opaqueDir)
	mustFind(t, "from below", s, places(3, root, 1, root), "x", api.Dir, 3, opaqueDir)
	mustFind(t, "from below", s, places(2, root, 1, root), "x", api.File, 2, file)
	mustLook(t, "a Dir twice", s, places(1, root, 1, root), []string{"x", "x", "x"}, 1, dir, 1, dir)
	mustName(t, "a Dir twice", s, places(1, root, 1, root), "x")
}

// deep is three layers, in which "a" stands above "a" above "a", and so on; what the second layer has at "/a/b" ends it there.
func deep(end int) api.Stack {
	down := func() api.Branch {
		l := layer(api.Entry{Slot: 1, Ino: dir, Name: "a"}, api.Entry{Slot: 2, Ino: file, Name: "f"}, api.Entry{Slot: 3, Ino: white, Name: "w"}, api.Entry{Slot: 4, Ino: link, Name: "l"})
		l.Nodes[dir-1].Entries = []api.Entry{{Slot: 1, Ino: last, Name: "b"}, {Slot: 2, Ino: root, Name: "up"}}
		l.Nodes[last-1].Entries = []api.Entry{{Slot: 1, Ino: file, Name: "c"}, {Slot: 2, Ino: opaqueDir, Name: "o"}}
		return l
	}
	s := stack(down(), down(), down())
	s.Lowers[1].Nodes[dir-1].Entries[0].Ino = end
	return s
}

// P16.3: of no names, of one and of more; through directories that end in a layer ahead.
func TestLook(t *testing.T) {
	s := deep(last)
	l := lower.Roots(s)
	mustLook(t, "no names", s, l, nil, 1, root, 2, root, 3, root)
	mustLook(t, "no names", s, l, []string{}, 1, root, 2, root, 3, root)
	mustLook(t, "one", s, l, []string{"a"}, 1, dir, 2, dir, 3, dir)
	mustLook(t, "two", s, l, []string{"a", "b"}, 1, last, 2, last, 3, last)
	mustLook(t, "three, opaque", s, l, []string{"a", "b", "o"}, 1, opaqueDir)
	mustLook(t, "a ring", s, l, []string{"a", "up", "a", "b"}, 1, last, 2, last, 3, last)
	mustLook(t, "of one place", s, l[1:2], []string{"a"}, 2, dir)
	mustLook(t, "another order", s, places(3, root, 1, root), []string{"a", "b"}, 3, last, 1, last)
	for _, names := range [][]string{{"f"}, {"l"}, {"w"}, {"z"}, {""}, {"a", "z"}, {"z", "a"}, {"a", "b", "c"}, {"a", "a"}, {"b"},
		{"f", "c"}, {"l", "a"}, {"w", "a"}, {"a", "b", "c", "o"}, {"a", "", "b"}, {"", "a"}, {"a", ""}, {"/a"}, {"a/b"}, {"."}, {"a", ".."}, {"a", "b", "o", "c"}} {
		mustNotLook(t, "nowhere, or no Dir", s, l, names...)
	}
}

// P16.3: what is beneath is lost where the second layer's "b" is a White, a File, or an opaque Dir, and found where it has none.
func TestLookThrough(t *testing.T) {
	for end, want := range map[int][]int{
		white:     {1, last},
		file:      {1, last},
		link:      {1, last},
		opaqueDir: {1, last, 2, opaqueDir},
		last:      {1, last, 2, last, 3, last},
		free:      {1, last, 3, last},
	} {
		s := deep(end)
		mustLook(t, "from the first", s, lower.Roots(s), []string{"a", "b"}, want...)
		below := lower.Roots(s)[1:]
		switch end {
		case white, file, link:
			mustNotLook(t, "from the second", s, below, "a", "b")
			mustNotLook(t, "through it", s, below, "a", "b", "o")
		default:
			mustLook(t, "from the second", s, below, []string{"a", "b"}, want[2:]...)
		}
	}
	s := deep(last)
	s.Lowers[0].Nodes[root-1].Entries[0].Ino = white
	mustNotLook(t, "a White at first", s, lower.Roots(s), "a")
	mustNotLook(t, "through a White", s, lower.Roots(s), "a", "b")
	s.Lowers[0].Nodes[root-1].Entries[0].Ino = file
	mustNotLook(t, "a File at first", s, lower.Roots(s), "a")
	mustNotLook(t, "through a File", s, lower.Roots(s), "a", "b")
}

// P16.3: many names, of a directory in itself.
func TestLookLong(t *testing.T) {
	s := stack(layer(named(root)...), layer(named(root)...))
	mustLook(t, "long", s, roots(s), slices.Repeat([]string{"x"}, 10000), 1, root, 2, root)
	mustNotLook(t, "long", s, roots(s), append(slices.Repeat([]string{"x"}, 10000), "y")...)
}

// P16.3: names that are hidden in part, or all; rising by bytes, each once.
func TestNames(t *testing.T) {
	s := stack(
		layer(api.Entry{Ino: white, Name: "gone"}, api.Entry{Ino: file, Name: "b"}, api.Entry{Ino: dir, Name: "z"}, api.Entry{Ino: free, Name: "free"}),
		layer(api.Entry{Ino: file, Name: "gone"}, api.Entry{Ino: white, Name: "b"}, api.Entry{Ino: link, Name: "a"}, api.Entry{Ino: dir, Name: "z"}, api.Entry{Ino: white, Name: "z2"}),
		layer(api.Entry{Ino: dir, Name: "gone"}, api.Entry{Ino: file, Name: "z2"}, api.Entry{Ino: file, Name: "free"}, api.Entry{Ino: file, Name: "a-"}, api.Entry{Ino: file, Name: "a."}, api.Entry{Ino: 99, Name: "none"}, api.Entry{Ino: file, Name: "9"}),
	)
	l := roots(s)
	mustName(t, "all", s, l, "9", "a", "a-", "a.", "b", "free", "z")
	mustName(t, "the first", s, l[:1], "b", "z")
	mustName(t, "the second", s, l[1:2], "a", "gone", "z")
	mustName(t, "the last", s, l[2:], "9", "a-", "a.", "free", "gone", "z2")
	mustName(t, "first and last", s, places(1, root, 3, root), "9", "a-", "a.", "b", "free", "z", "z2")
	mustName(t, "from below", s, places(3, root, 2, root, 1, root), "9", "a", "a-", "a.", "free", "gone", "z", "z2")
	mustName(t, "empty ones", stack(layer(), layer()), l)
	mustName(t, "Whites alone", stack(layer(named(white)...), layer(named(white)...)), l)
	mustName(t, "a White below", stack(layer(named(file)...), layer(named(white)...)), l, "x")
	mustName(t, "bytes, not letters", stack(layer(api.Entry{Ino: file, Name: "é"}, api.Entry{Ino: file, Name: "z"}, api.Entry{Ino: file, Name: "Z"}, api.Entry{Ino: file, Name: "a"})), l, "Z", "a", "z", "é")
}

// P16.1 to P16.3: neither the layout nor the upper layer is asked.
func TestAsksNoMore(t *testing.T) {
	s := deep(last)
	for _, g := range []api.Geo{{}, {Lowers: 1, Inodes: 1}, {Lowers: -1}, {Lowers: math.MaxInt, Inodes: math.MaxInt}} {
		s.Geo, s.Upper = g, api.Branch{Nodes: []api.Node{{Kind: api.Dir, Attr: opaque(), Entries: []api.Entry{{Ino: 1, Name: "a"}, {Ino: 1, Name: "q"}}}}}
		l := lower.Roots(s)
		mustLook(t, "another layout", s, l, []string{"a", "b"}, 1, last, 2, last, 3, last)
		mustName(t, "another layout", s, l, "a", "f", "l")
	}
}

// hit is the first entry of that name in a Place that is not Free, by a second reading of the chapter.
func hit(s api.Stack, p api.Place, name string) (api.Place, api.Node) {
	if p.Layer < 1 || p.Layer > len(s.Lowers) {
		return api.Place{}, api.Node{}
	}
	l := s.Lowers[p.Layer-1].Nodes
	if p.Ino < 1 || p.Ino > len(l) || l[p.Ino-1].Kind != api.Dir {
		return api.Place{}, api.Node{}
	}
	for _, e := range l[p.Ino-1].Entries {
		if e.Name == name && e.Ino >= 1 && e.Ino <= len(l) && l[e.Ino-1].Kind != api.Free {
			return api.Place{Layer: p.Layer, Ino: e.Ino}, l[e.Ino-1]
		}
	}
	return api.Place{}, api.Node{}
}

// model is Find by a second reading: what one Place has, and then what those behind it have.
func model(s api.Stack, l []api.Place, name string, told []api.Place) (int, []api.Place) {
	end := func() (int, []api.Place) {
		if len(told) > 0 {
			return api.Dir, told
		}
		return 0, nil
	}
	if len(l) == 0 {
		return end()
	}
	p, n := hit(s, l[0], name)
	if n.Kind == api.White || len(told) > 0 && (n.Kind == api.File || n.Kind == api.Link) {
		return end()
	}
	if n.Kind == api.File || n.Kind == api.Link {
		return n.Kind, []api.Place{p}
	}
	if n.Kind == api.Dir {
		told = append(slices.Clone(told), p)
		if n.Attr.Has%2 == 1 && n.Attr.Opaque == 121 {
			return end()
		}
	}
	return model(s, l[1:], name, told)
}

func letters() []string {
	return []string{"a", "b", "c", "d", ""}
}

// some is a stack of any layers, of few names and nodes, so that they often meet.
func some(r *rand.Rand) api.Stack {
	var s api.Stack
	for range r.Intn(5) {
		var b api.Branch
		nodes := 1 + r.Intn(7)
		for range nodes {
			n := api.Node{Kind: []int{0, 1, 1, 1, 1, 2, 3, 4, 5}[r.Intn(9)]}
			if r.Intn(4) == 0 {
				n.Attr = api.Attr{Has: r.Intn(4), Opaque: api.Mark - r.Intn(4)/3}
			}
			for range r.Intn(8) {
				n.Entries = append(n.Entries, api.Entry{Slot: r.Intn(16), Ino: r.Intn(nodes + 2), Name: letters()[r.Intn(5)]})
			}
			b.Nodes = append(b.Nodes, n)
		}
		b.Nodes[0].Kind = []int{1, 1, 1, 1, 1, 1, 2, 0}[r.Intn(8)]
		s.Lowers = append(s.Lowers, b)
	}
	return s
}

func someList(r *rand.Rand, s api.Stack) []api.Place {
	if r.Intn(2) == 0 {
		return lower.Roots(s)
	}
	var l []api.Place
	for range r.Intn(6) {
		l = append(l, api.Place{Layer: r.Intn(len(s.Lowers)+2) + r.Intn(9)/8*-3, Ino: r.Intn(9)})
	}
	return l
}

func mustModel(t *testing.T, s api.Stack, l []api.Place) {
	t.Helper()
	var names []string
	for _, name := range append(letters(), "e", "A") {
		kind, want := model(s, l, name, nil)
		if k, p := lower.Find(s, l, name); k != kind || !slices.Equal(p, want) {
			t.Fatalf("Find(%v, %v, %q): %d, %v, not %d, %v", s.Lowers, l, name, k, p, kind, want)
		}
		if kind != 0 {
			names = append(names, name)
		}
	}
	slices.Sort(names)
	if got := lower.Names(s, l); !slices.Equal(got, names) {
		t.Fatalf("Names(%v, %v): %q, not %q", s.Lowers, l, got, names)
	}
}

func modelLook(s api.Stack, l []api.Place, names []string) ([]api.Place, bool) {
	if len(names) == 0 {
		return l, true
	}
	kind, p := model(s, l, names[0], nil)
	if kind != api.Dir {
		return nil, false
	}
	return modelLook(s, p, names[1:])
}

// P16.1 to P16.4: many stacks, held against the model; what is found is named, what is named is found.
func TestMany(t *testing.T) {
	r := rand.New(rand.NewSource(1))
	found := map[bool]int{}
	for range 20000 {
		s := some(r)
		var roots []int
		for i, b := range s.Lowers {
			if n := b.Nodes[0]; n.Kind == api.Dir {
				roots = append(roots, i+1)
				if n.Attr.Has%2 == 1 && n.Attr.Opaque == 121 {
					break
				}
			}
		}
		mustRoots(t, "any stack", s, roots...)
		l := someList(r, s)
		mustModel(t, s, l)
		for range 4 {
			var names []string
			for range r.Intn(4) {
				names = append(names, letters()[r.Intn(3)])
			}
			want, is := modelLook(s, l, names)
			if p, ok := lower.Look(s, l, names); ok != is || !slices.Equal(p, want) {
				t.Fatalf("Look(%v, %v, %q): %v, %v, not %v", s.Lowers, l, names, p, ok, want)
			}
			found[is && len(names) > 1]++
		}
	}
	if found[true] < 1000 || found[false] < 1000 {
		t.Fatal(found)
	}
}

// P16.4: all that Names tells is found, and each name that is found is told.
func TestNamesAreFound(t *testing.T) {
	r := rand.New(rand.NewSource(2))
	for range 3000 {
		s := some(r)
		l := someList(r, s)
		told := lower.Names(s, l)
		for _, name := range append(letters(), "e", "..") {
			if kind, _ := lower.Find(s, l, name); (kind != 0) != slices.Contains(told, name) {
				t.Errorf("Names(%v, %v): %q, but %q is %d", s.Lowers, l, told, name, kind)
			}
		}
	}
}

// What is handed in stays as it is, and answers share no memory with it, nor with one another.
func TestAnswersShareNothing(t *testing.T) {
	s := deep(last)
	l, names := lower.Roots(s), []string{"a", "b"}
	given := slices.Clone(l)
	answers := func() [][]api.Place {
		_, found := lower.Find(s, l, "a")
		_, one := lower.Find(s, l, "f")
		same, _ := lower.Look(s, l, nil)
		two, _ := lower.Look(s, l, names)
		return [][]api.Place{lower.Roots(s), found, one, same, two}
	}
	want := answers()
	for i, p := range answers() {
		if len(p) == 0 {
			t.Fatal(i)
		}
		clear(p[:cap(p)])
		_ = append(p[:0], api.Place{Layer: 9})
	}
	told := lower.Names(s, l)
	clear(told[:cap(told)])
	if !slices.Equal(l, given) || !slices.Equal(names, []string{"a", "b"}) || !reflect.DeepEqual(s, deep(last)) {
		t.Error("what was handed in is changed")
	}
	again := answers()
	if !reflect.DeepEqual(again, want) {
		t.Errorf("%v, not %v", again, want)
	}
	clear(l)
	if !reflect.DeepEqual(again, want) {
		t.Errorf("an answer changes with the list: %v, not %v", again, want)
	}
	room := append(slices.Clone(given), api.Place{Layer: 7, Ino: 7})
	_, _ = lower.Look(s, room[:3], nil)
	same, _ := lower.Look(s, room[:3], nil)
	_ = append(same, api.Place{Layer: 8})
	if room[3] != (api.Place{Layer: 7, Ino: 7}) {
		t.Error("an answer has the list's room behind it")
	}
}
