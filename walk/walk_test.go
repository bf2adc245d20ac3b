package walk_test

import (
	"bytes"
	"math"
	"math/rand"
	"reflect"
	"slices"
	"testing"

	"craquelure/api"
	"craquelure/sample"
	"craquelure/walk"
)

// dir is a directory whose entries name these inodes by "a", "b" and on; their slots fall, as nobody asks for their order.
func dir(inos ...int) api.Node {
	n := api.Node{Kind: api.Dir, Nlink: 2}
	for i, ino := range inos {
		n.Entries = append(n.Entries, api.Entry{Slot: 15 - i, Ino: ino, Name: string('a' + rune(i))})
	}
	return n
}

func file() api.Node {
	return api.Node{Kind: api.File, Nlink: 1, Data: []byte{1, 2}}
}

func layer(nodes ...api.Node) api.Branch {
	return api.Branch{Nodes: nodes}
}

// told is what the calls tell, by a second reading of the chapter; kept is what Prune leaves.
type told struct {
	ways  []api.Way
	twice [][2]int
	reach []bool
	kept  api.Branch
}

func node(b api.Branch, ino int) api.Node {
	if ino < 1 || ino > len(b.Nodes) {
		return api.Node{}
	}
	return b.Nodes[ino-1]
}

// in tells whether the list has that inode.
func in(l []api.Way, ino int) bool {
	return slices.ContainsFunc(l, func(w api.Way) bool { return w.Ino == ino })
}

// model goes through the list as long as it grows, and looks through all of it each time.
func model(b api.Branch, from []int) told {
	var m told
	kept := map[int][]api.Entry{}
	gone := 0
	for _, ino := range from {
		if node(b, ino).Kind == api.Dir && !in(m.ways, ino) {
			m.ways = append(m.ways, api.Way{Ino: ino, Up: -1})
		}
		for ; gone < len(m.ways); gone++ {
			d := m.ways[gone].Ino
			for _, e := range node(b, d).Entries {
				is, new := node(b, e.Ino).Kind == api.Dir, !in(m.ways, e.Ino)
				if is && new {
					m.ways = append(m.ways, api.Way{Ino: e.Ino, Up: gone, Name: e.Name})
				}
				if is && !new {
					m.twice = append(m.twice, [2]int{d, e.Slot})
				} else {
					kept[d] = append(kept[d], e)
				}
			}
		}
	}
	m.reach = make([]bool, len(b.Nodes))
	m.kept.Nodes = make([]api.Node, len(b.Nodes))
	for i, n := range b.Nodes {
		m.reach[i] = in(m.ways, i+1)
		for _, w := range m.ways {
			m.reach[i] = m.reach[i] || slices.ContainsFunc(node(b, w.Ino).Entries, func(e api.Entry) bool { return e.Ino == i+1 })
		}
		if m.reach[i] {
			m.kept.Nodes[i] = n
			if n.Kind == api.Dir {
				m.kept.Nodes[i].Entries = kept[i+1]
			}
		}
	}
	return m
}

// plain is nodes in which lists that have nothing are nil.
func plain(b api.Branch) api.Branch {
	var l []api.Node
	for _, n := range b.Nodes {
		if len(n.Data) == 0 {
			n.Data = nil
		}
		if len(n.Entries) == 0 {
			n.Entries = nil
		}
		l = append(l, n)
	}
	return api.Branch{Nodes: l}
}

func alike(a, b api.Branch) bool {
	return reflect.DeepEqual(plain(a), plain(b))
}

// mustTell holds all calls against the model, and against what follows of it.
func mustTell(t *testing.T, why string, b api.Branch, from ...int) {
	t.Helper()
	m := model(b, from)
	if l := walk.Dirs(b, from...); !slices.Equal(l, m.ways) {
		t.Errorf("%s: Dirs(%v, %v): %v, not %v", why, b, from, l, m.ways)
	}
	if l := walk.Twice(b, from...); !slices.Equal(l, m.twice) {
		t.Errorf("%s: Twice(%v, %v): %v, not %v", why, b, from, l, m.twice)
	}
	if l := walk.Reach(b, from...); !slices.Equal(l, m.reach) {
		t.Errorf("%s: Reach(%v, %v): %v, not %v", why, b, from, l, m.reach)
	}
	p := walk.Prune(b, from...)
	if !alike(p, m.kept) {
		t.Errorf("%s: Prune(%v, %v): %v, not %v", why, b, from, p, m.kept)
	}
	mustFollow(t, why, b, p, from)
}

// P13.4: each Dir is in Dirs once at most; Prune of Prune is it; Prune has no Twice, and leads where b led.
func mustFollow(t *testing.T, why string, b, p api.Branch, from []int) {
	t.Helper()
	seen := map[int]int{}
	for _, w := range walk.Dirs(b, from...) {
		if seen[w.Ino]++; seen[w.Ino] > 1 {
			t.Errorf("%s: %d is told again of %v, %v", why, w.Ino, b, from)
		}
	}
	if again := walk.Prune(p, from...); !alike(again, p) {
		t.Errorf("%s: Prune of Prune of %v, %v: %v, not %v", why, b, from, again, p)
	}
	if l := walk.Twice(p, from...); len(l) != 0 {
		t.Errorf("%s: Twice of Prune of %v, %v: %v", why, b, from, l)
	}
	if !slices.Equal(walk.Dirs(p, from...), walk.Dirs(b, from...)) || !slices.Equal(walk.Reach(p, from...), walk.Reach(b, from...)) {
		t.Errorf("%s: Prune of %v, %v leads elsewhere", why, b, from)
	}
}

func mustDirs(t *testing.T, why string, b api.Branch, from []int, want ...api.Way) {
	t.Helper()
	if l := walk.Dirs(b, from...); !slices.Equal(l, want) {
		t.Errorf("%s: Dirs: %v, not %v", why, l, want)
	}
	mustTell(t, why, b, from...)
}

func mustTwice(t *testing.T, why string, b api.Branch, from []int, want ...[2]int) {
	t.Helper()
	if l := walk.Twice(b, from...); !slices.Equal(l, want) {
		t.Errorf("%s: Twice: %v, not %v", why, l, want)
	}
	mustTell(t, why, b, from...)
}

func mustReach(t *testing.T, why string, b api.Branch, from []int, want ...int) {
	t.Helper()
	var got []int
	r := walk.Reach(b, from...)
	for i, is := range r {
		if is {
			got = append(got, i+1)
		}
	}
	if len(r) != len(b.Nodes) || !slices.Equal(got, want) {
		t.Errorf("%s: Reach: %v, not %v", why, r, want)
	}
	mustTell(t, why, b, from...)
}

// The chapter's example: a Dir that has an entry of itself.
func TestExample(t *testing.T) {
	mustTwice(t, "itself", layer(dir(1)), []int{1}, [2]int{1, 15})
	mustDirs(t, "itself", layer(dir(1)), []int{1}, api.Way{Ino: 1, Up: -1})
	mustReach(t, "itself", layer(dir(1)), []int{1}, 1)
}

// tree is two directories in the first one, one in each of these, and one that nothing names.
func tree() api.Branch {
	return layer(dir(3, 2), dir(4), dir(5, 6), dir(), dir(), file(), dir(8), dir())
}

// P13.1: a walk from nothing: nothing is come to; Prune leaves as many nodes, all zero.
func TestFromNothing(t *testing.T) {
	mustDirs(t, "from nothing", tree(), nil)
	mustTwice(t, "from nothing", layer(dir(1, 1), dir(1)), nil)
	mustReach(t, "from nothing", tree(), nil)
	if p := walk.Prune(tree()); !reflect.DeepEqual(plain(p).Nodes, make([]api.Node, 8)) {
		t.Errorf("Prune: %v", p)
	}
}

// P13.1: directory by directory, and entry by entry, as they stand, whatever their slots and names are.
func TestOrder(t *testing.T) {
	mustDirs(t, "from one", tree(), []int{1},
		api.Way{Ino: 1, Up: -1}, api.Way{Ino: 3, Up: 0, Name: "a"}, api.Way{Ino: 2, Up: 0, Name: "b"},
		api.Way{Ino: 5, Up: 1, Name: "a"}, api.Way{Ino: 4, Up: 2, Name: "a"})
	mustReach(t, "from one", tree(), []int{1}, 1, 2, 3, 4, 5, 6)
	b := layer(api.Node{Kind: api.Dir, Entries: []api.Entry{{Slot: 9, Ino: 4, Name: "z"}, {Slot: 2, Ino: 2, Name: "y"}, {Slot: 5, Ino: 3, Name: "x"}, {Slot: 2, Ino: 4, Name: "w"}}},
		dir(), dir(2), dir(3))
	mustDirs(t, "as they stand", b, []int{1},
		api.Way{Ino: 1, Up: -1}, api.Way{Ino: 4, Up: 0, Name: "z"}, api.Way{Ino: 2, Up: 0, Name: "y"}, api.Way{Ino: 3, Up: 0, Name: "x"})
	mustTwice(t, "as they stand", b, []int{1}, [2]int{1, 2}, [2]int{4, 15}, [2]int{3, 15})
}

// P13.1: all that comes of one is in the list ahead of the next one.
func TestFromMore(t *testing.T) {
	b := tree()
	mustDirs(t, "from two", b, []int{2, 7},
		api.Way{Ino: 2, Up: -1}, api.Way{Ino: 4, Up: 0, Name: "a"}, api.Way{Ino: 7, Up: -1}, api.Way{Ino: 8, Up: 2, Name: "a"})
	mustDirs(t, "the other way round", b, []int{7, 2},
		api.Way{Ino: 7, Up: -1}, api.Way{Ino: 8, Up: 0, Name: "a"}, api.Way{Ino: 2, Up: -1}, api.Way{Ino: 4, Up: 2, Name: "a"})
	mustReach(t, "from two", b, []int{2, 7}, 2, 4, 7, 8)
	mustDirs(t, "from one twice", b, []int{2, 2}, api.Way{Ino: 2, Up: -1}, api.Way{Ino: 4, Up: 0, Name: "a"})
	mustTwice(t, "from one twice", b, []int{2, 2})
	mustDirs(t, "twice, with another between", b, []int{4, 8, 4}, api.Way{Ino: 4, Up: -1}, api.Way{Ino: 8, Up: -1})
	mustDirs(t, "from one that is come to already", b, []int{2, 4}, api.Way{Ino: 2, Up: -1}, api.Way{Ino: 4, Up: 0, Name: "a"})
	mustTwice(t, "from one that is come to already", b, []int{2, 4})
	mustDirs(t, "from one that is named later", b, []int{4, 2}, api.Way{Ino: 4, Up: -1}, api.Way{Ino: 2, Up: -1})
	mustTwice(t, "from one that is named later", b, []int{4, 2}, [2]int{2, 15})
	mustDirs(t, "from all", b, []int{8, 7, 6, 5, 4, 3, 2, 1},
		api.Way{Ino: 8, Up: -1}, api.Way{Ino: 7, Up: -1}, api.Way{Ino: 5, Up: -1}, api.Way{Ino: 4, Up: -1},
		api.Way{Ino: 3, Up: -1}, api.Way{Ino: 2, Up: -1}, api.Way{Ino: 1, Up: -1})
	mustTwice(t, "from all", b, []int{8, 7, 6, 5, 4, 3, 2, 1}, [2]int{7, 15}, [2]int{3, 15}, [2]int{2, 15}, [2]int{1, 15}, [2]int{1, 14})
	many := slices.Repeat([]int{9, 1, 0, 3}, 1000)
	mustDirs(t, "from far more than there are", layer(dir(2), dir(), dir(2)), many,
		api.Way{Ino: 1, Up: -1}, api.Way{Ino: 2, Up: 0, Name: "a"}, api.Way{Ino: 3, Up: -1})
}

// P13.1: from 0, from below 0, from one behind the last, and from one that is no Dir.
func TestFromNone(t *testing.T) {
	b := tree()
	for _, ino := range append(sample.Far(), -9, -8, -1, 0, 6, 9, 10) {
		mustDirs(t, "from none", b, []int{ino})
		mustReach(t, "from none", b, []int{ino})
		mustDirs(t, "from none, and one", b, []int{ino, 8, ino}, api.Way{Ino: 8, Up: -1})
	}
	for _, kind := range []int{math.MinInt, -1, api.Free, api.File, api.Link, api.White, 5, 257, math.MaxInt} {
		n := dir(2)
		n.Kind = kind
		mustDirs(t, "from no Dir", layer(n, dir()), []int{1})
		mustReach(t, "from no Dir", layer(n, dir()), []int{1})
		mustReach(t, "from no Dir, which is named", layer(n, dir(1)), []int{1, 2}, 1, 2)
	}
}

// P13.1: layers of no nodes.
func TestNoNodes(t *testing.T) {
	for _, b := range []api.Branch{{}, {Nodes: []api.Node{}}} {
		for _, from := range [][]int{nil, {1}, {1, 2, 3}, {0, -1}, sample.Far()} {
			mustDirs(t, "no nodes", b, from)
			mustTwice(t, "no nodes", b, from)
			mustReach(t, "no nodes", b, from)
			if p := walk.Prune(b, from...); len(p.Nodes) != 0 {
				t.Errorf("Prune: %v", p)
			}
		}
	}
}

// P13.2: a Dir that names the one that names it, one where the walk begins, and itself.
func TestRings(t *testing.T) {
	mustTwice(t, "the one that names it", layer(dir(2), dir(3), dir(2)), []int{1}, [2]int{3, 15})
	mustTwice(t, "where the walk begins", layer(dir(2), dir(1)), []int{1}, [2]int{2, 15})
	mustTwice(t, "where the walk begins later", layer(dir(2), dir(), dir(1)), []int{1, 3}, [2]int{3, 15})
	mustTwice(t, "where the walk would begin later", layer(dir(2, 3), dir(), dir(1)), []int{1, 3}, [2]int{3, 15})
	mustTwice(t, "itself, below", layer(dir(2), dir(2)), []int{1}, [2]int{2, 15})
	mustTwice(t, "itself, often", layer(dir(1, 1, 1)), []int{1}, [2]int{1, 15}, [2]int{1, 14}, [2]int{1, 13})
	mustTwice(t, "a ring that is not come to", layer(dir(), dir(3), dir(2)), []int{1})
	mustReach(t, "a ring that is not come to", layer(dir(), dir(3), dir(2)), []int{1}, 1)
	mustTwice(t, "a ring of all", layer(dir(2), dir(3), dir(4), dir(1)), []int{3}, [2]int{2, 15})
}

// P13.2: two entries that name one Dir: of one Dir, and of two: the one that is come to first brings it.
func TestNamedTwice(t *testing.T) {
	mustDirs(t, "of one Dir", layer(dir(2, 2), dir()), []int{1}, api.Way{Ino: 1, Up: -1}, api.Way{Ino: 2, Up: 0, Name: "a"})
	mustTwice(t, "of one Dir", layer(dir(2, 2), dir()), []int{1}, [2]int{1, 14})
	b := layer(dir(2, 3), dir(4), dir(4), dir())
	mustDirs(t, "of two Dirs", b, []int{1},
		api.Way{Ino: 1, Up: -1}, api.Way{Ino: 2, Up: 0, Name: "a"}, api.Way{Ino: 3, Up: 0, Name: "b"}, api.Way{Ino: 4, Up: 1, Name: "a"})
	mustTwice(t, "of two Dirs", b, []int{1}, [2]int{3, 15})
	mustTwice(t, "of two Dirs, in two walks", b, []int{3, 1}, [2]int{1, 14}, [2]int{2, 15})
	mustTwice(t, "one above, one below", layer(dir(2, 3), dir(3), dir()), []int{1}, [2]int{2, 15})
	mustTwice(t, "one below, one above", layer(dir(3, 2), dir(3), dir(2)), []int{1}, [2]int{3, 15}, [2]int{2, 15})
	mustTwice(t, "Files, Links, and Whites", layer(dir(2, 2, 3, 3, 4, 4), file(), api.Node{Kind: api.Link}, api.Node{Kind: api.White}), []int{1})
}

// P13.1, P13.2: entries of Ino 0, below 0, behind the last, and of what is no Dir.
func TestOtherEntries(t *testing.T) {
	for _, ino := range append(sample.Far(), -3, -2, -1, 0, 3, 4) {
		mustDirs(t, "entries of none", layer(dir(ino, 2, ino), dir(ino)), []int{1}, api.Way{Ino: 1, Up: -1}, api.Way{Ino: 2, Up: 0, Name: "b"})
		mustTwice(t, "entries of none", layer(dir(ino, 2, ino), dir(ino)), []int{1})
		mustReach(t, "entries of none", layer(dir(ino), dir()), []int{1}, 1)
		if p := walk.Prune(layer(dir(ino, ino)), 1); len(p.Nodes[0].Entries) != 2 {
			t.Errorf("entries of %d: Prune: %v", ino, p)
		}
	}
	for _, kind := range []int{math.MinInt, -1, api.Free, api.File, api.Link, api.White, 5, 257, math.MaxInt} {
		n := dir(3, 1)
		n.Kind = kind
		b := layer(dir(2, 2), n, dir())
		mustDirs(t, "an entry of no Dir", b, []int{1}, api.Way{Ino: 1, Up: -1})
		mustTwice(t, "an entry of no Dir", b, []int{1})
		mustReach(t, "an entry of no Dir", b, []int{1}, 1, 2)
	}
}

func mustPath(t *testing.T, why string, l []api.Way, i int, want ...string) {
	t.Helper()
	if got := walk.Path(l, i); !slices.Equal(got, want) {
		t.Errorf("%s: Path(%v, %d): %q, not %q", why, l, i, got, want)
	}
}

// P13.2: the Names from where the walk began down to a place, of each that was come to.
func TestPath(t *testing.T) {
	b := layer(dir(2, 3), dir(4), dir(), dir(5, 6), dir(), dir(), dir(8), dir())
	l := walk.Dirs(b, 1, 7)
	for i, want := range [][]string{nil, {"a"}, {"b"}, {"a", "a"}, {"a", "a", "a"}, {"a", "a", "b"}, nil, {"a"}} {
		mustPath(t, "a walk", l, i, want...)
	}
	for _, i := range append(sample.Far(), -1, 8, 9) {
		mustPath(t, "no place", l, i)
		mustPath(t, "no place of nothing", nil, i)
	}
	mustPath(t, "of nothing", nil, 0)
	mustPath(t, "of one", l[:1], 0)
	mustPath(t, "behind the last one", l[:1], 1)
}

// P13.2: an Up of -1, of the place itself, of one behind it, and of none ends it.
func TestPathEnds(t *testing.T) {
	for _, up := range append(sample.Far(), -1, 1, 2, 3, 4, 5) {
		l := []api.Way{{Ino: 1, Up: -1, Name: "x"}, {Ino: 2, Up: up, Name: "y"}, {Ino: 3, Up: 1, Name: "z"}, {Ino: 4, Up: 2, Name: "w"}}
		mustPath(t, "the end", l, 1)
		mustPath(t, "behind the end", l, 2, "z")
		mustPath(t, "behind that", l, 3, "z", "w")
	}
	for _, up := range append(sample.Far(), -1, 0, 1, 2) {
		l := []api.Way{{Ino: 1, Up: up, Name: "x"}, {Ino: 2, Up: 0, Name: "y"}}
		mustPath(t, "the first one", l, 0)
		mustPath(t, "the one behind it", l, 1, "y")
	}
	ring := []api.Way{{Ino: 1, Up: 2, Name: "a"}, {Ino: 2, Up: 0, Name: "b"}, {Ino: 3, Up: 1, Name: "c"}}
	mustPath(t, "a ring", ring, 0)
	mustPath(t, "a ring", ring, 1, "b")
	mustPath(t, "a ring", ring, 2, "b", "c")
	mustPath(t, "names that are not right", []api.Way{{Up: -1}, {Up: 0, Name: ""}, {Up: 1, Name: "/"}}, 2, "", "/")
}

// P13.2: many lists, of any Ups, by the chapter's words: nothing, or what the Up tells, and the Name.
func TestPathMany(t *testing.T) {
	var words func(l []api.Way, i int) []string
	words = func(l []api.Way, i int) []string {
		if i < 0 || i >= len(l) || l[i].Up < 0 || l[i].Up >= i {
			return nil
		}
		return append(words(l, l[i].Up), l[i].Name)
	}
	r := rand.New(rand.NewSource(1))
	for range 2000 {
		l := make([]api.Way, r.Intn(12))
		for i := range l {
			l[i] = api.Way{Ino: r.Intn(9), Up: r.Intn(len(l)+3) - 2, Name: string('a' + rune(i))}
			if r.Intn(2) == 0 {
				l[i].Up = i - 1 - r.Intn(3)
			}
		}
		for i := -2; i < len(l)+2; i++ {
			mustPath(t, "any list", l, i, words(l, i)...)
		}
	}
}

// A deep walk, of which the path is as long as it.
func TestDeep(t *testing.T) {
	const n = 20000
	nodes := make([]api.Node, n)
	for i := range nodes {
		nodes[i] = dir(i + 2)
	}
	l := walk.Dirs(layer(nodes...), 1)
	if len(l) != n || len(walk.Path(l, n-1)) != n-1 || len(walk.Twice(layer(nodes...), 1)) != 0 {
		t.Errorf("%d directories, a path of %d names", len(l), len(walk.Path(l, n-1)))
	}
}

// P13.3: the entries of Twice go, what is not reached is zero, all else stays, the order too.
func TestPrune(t *testing.T) {
	root := api.Node{Kind: api.Dir, Impure: 3, Nlink: 9, Gen: 5, Attr: api.Attr{Has: api.HasOpaque, Opaque: api.Mark}, Entries: []api.Entry{
		{Slot: 7, Ino: 2, Name: "a"}, {Slot: 3, Ino: 1, Name: "b"}, {Slot: 5, Ino: 3, Name: "c"}, {Slot: 6, Ino: 2, Name: "d"}, {Slot: 0, Ino: 99, Name: "e"}, {Slot: 1, Ino: 4, Name: "f"},
	}}
	link := api.Node{Kind: api.Link, Nlink: 1, Gen: 4, Data: []byte("/a")}
	want := root
	want.Entries = slices.Concat(root.Entries[:1], root.Entries[2:3], root.Entries[4:])
	b := layer(root, dir(1, 3, 5), link, api.Node{}, file(), dir(6), file())
	kept := dir(1, 3, 5)
	kept.Entries = kept.Entries[1:]
	if p := walk.Prune(b, 1); !alike(p, layer(want, kept, link, api.Node{}, file(), api.Node{}, api.Node{})) {
		t.Errorf("Prune: %v", p)
	}
	mustTell(t, "from the root", b, 1)
	mustTell(t, "from more", b, 6, 1)
	if p := walk.Prune(b, 3); !alike(p, layer(make([]api.Node, 7)...)) {
		t.Errorf("Prune from no Dir: %v", p)
	}
}

// P13.3: entries of one slot: just those go that brought none.
func TestPruneSlotsAlike(t *testing.T) {
	n := api.Node{Kind: api.Dir, Entries: []api.Entry{{Slot: 4, Ino: 2, Name: "a"}, {Slot: 4, Ino: 1, Name: "b"}, {Slot: 4, Ino: 3, Name: "c"}, {Slot: 4, Ino: 2, Name: "a"}}}
	b := layer(n, dir(), file())
	mustTwice(t, "slots alike", b, []int{1}, [2]int{1, 4}, [2]int{1, 4})
	n.Entries = []api.Entry{{Slot: 4, Ino: 2, Name: "a"}, {Slot: 4, Ino: 3, Name: "c"}}
	if p := walk.Prune(b, 1); !alike(p, layer(n, dir(), file())) {
		t.Errorf("Prune: %v", p)
	}
}

// P13.3: what is no Dir keeps what it has, if it is reached.
func TestPruneOthers(t *testing.T) {
	odd := file()
	odd.Entries = dir(1, 2, 9).Entries
	b := layer(dir(2, 3), odd, dir())
	if p := walk.Prune(b, 1); !alike(p, b) {
		t.Errorf("Prune: %v", p)
	}
}

// P13.1 to P13.4: all layers of three directories with two entries each, from each one and each two.
func TestAllSmall(t *testing.T) {
	for i := range 5 * 5 * 5 * 5 * 5 {
		a, b, c, d, e := i%5, i/5%5, i/25%5, i/125%5, i/625
		l := layer(dir(a, b), dir(c, d), dir(e), file())
		for x := range 5 {
			mustTell(t, "small", l, x)
			mustTell(t, "small", l, x, (x+i)%5)
		}
	}
}

// someLayer is a layer of any nodes, most of them directories; entries' slots may be alike.
func someLayer(r *rand.Rand) api.Branch {
	nodes := make([]api.Node, r.Intn(25))
	kinds := []int{api.Free, api.Dir, api.Dir, api.Dir, api.Dir, api.File, api.Link, api.White, 5, -1}
	for i := range nodes {
		n := &nodes[i]
		n.Kind = kinds[r.Intn(len(kinds))]
		n.Impure, n.Nlink, n.Gen = r.Intn(256), r.Intn(9), r.Intn(1<<28)
		n.Data = make([]byte, r.Intn(5))
		r.Read(n.Data)
		n.Attr = api.Attr{Has: api.HasRedirect, Redirect: "/x"}
		for range r.Intn(7) {
			n.Entries = append(n.Entries, api.Entry{Slot: r.Intn(16), Ino: r.Intn(len(nodes)+4) - 1, Name: string('a' + rune(r.Intn(26)))})
		}
	}
	return api.Branch{Nodes: nodes}
}

// P13.1 to P13.4: many layers, held against the model.
func TestMany(t *testing.T) {
	r := rand.New(rand.NewSource(2))
	for range 3000 {
		b := someLayer(r)
		from := make([]int, r.Intn(5))
		for i := range from {
			from[i] = r.Intn(len(b.Nodes)+3) - 1
		}
		mustTell(t, "any layer", b, from...)
	}
}

func copied(b api.Branch) api.Branch {
	nodes := slices.Clone(b.Nodes)
	for i := range nodes {
		nodes[i].Data = bytes.Clone(nodes[i].Data)
		nodes[i].Entries = slices.Clone(nodes[i].Entries)
	}
	return api.Branch{Nodes: nodes}
}

// spoil writes over all that a branch holds.
func spoil(b api.Branch) {
	for _, n := range b.Nodes {
		for i := range n.Data[:cap(n.Data)] {
			n.Data[:cap(n.Data)][i] ^= 255
		}
		clear(n.Entries[:cap(n.Entries)])
	}
	clear(b.Nodes[:cap(b.Nodes)])
}

// The answers share no memory with what was handed in, nor with other answers; what was handed in stays as it is.
func TestAnswersShareNothing(t *testing.T) {
	r := rand.New(rand.NewSource(3))
	for range 300 {
		b := someLayer(r)
		before := copied(b)
		from := []int{1, 3, 2, 1}
		m := model(before, from)
		l, twice, reach, p := walk.Dirs(b, from...), walk.Twice(b, from...), walk.Reach(b, from...), walk.Prune(b, from...)
		kept := walk.Prune(b, from...)
		clear(l[:cap(l)])
		clear(twice[:cap(twice)])
		clear(reach[:cap(reach)])
		spoil(p)
		if !reflect.DeepEqual(b, before) || !slices.Equal(from, []int{1, 3, 2, 1}) {
			t.Fatal("what was handed in is changed")
		}
		mustTell(t, "again", b, from...)
		spoil(b)
		if !alike(kept, m.kept) {
			t.Fatal("Prune changes with what was handed in, or with another answer")
		}
	}
}

// No two lists of one answer of Prune share memory, also where those of the layer that is handed in do.
func TestPruneSharesNothingWithin(t *testing.T) {
	data, entries := []byte{1, 2, 3}, []api.Entry{{Slot: 0, Ino: 2, Name: "a"}, {Slot: 1, Ino: 3, Name: "b"}, {Slot: 2, Ino: 4, Name: "c"}}
	n := api.Node{Kind: api.File, Data: data, Entries: entries}
	p := walk.Prune(layer(api.Node{Kind: api.Dir, Entries: entries}, n, n, n), 1)
	p.Nodes[1].Data[0], p.Nodes[1].Entries[0] = 9, api.Entry{}
	if !reflect.DeepEqual(p.Nodes[2], n) || !slices.Equal(p.Nodes[0].Entries, entries) || data[0] != 1 {
		t.Errorf("two nodes share: %v", p)
	}
}

// Path shares nothing with the list, and leaves it as it is.
func TestPathSharesNothing(t *testing.T) {
	l := []api.Way{{Ino: 1, Up: -1}, {Ino: 2, Up: 0, Name: "a"}, {Ino: 3, Up: 1, Name: "b"}}
	before := slices.Clone(l)
	p := walk.Path(l, 2)
	kept := walk.Path(l, 2)
	clear(p[:cap(p)])
	if !slices.Equal(l, before) {
		t.Error("the list is changed")
	}
	clear(l)
	if !slices.Equal(kept, []string{"a", "b"}) {
		t.Errorf("Path changes with the list, or with another answer: %v", kept)
	}
}
