package impure_test

import (
	"math"
	"math/rand"
	"reflect"
	"slices"
	"testing"

	"craquelure/api"
	"craquelure/impure"
	"craquelure/sample"
)

const root = api.Root

// Inodes of upper layers.
const (
	file, link, white, free = 4, 5, 6, 7
	dir, sub, away, last    = 8, 9, 10, 10
)

func named(name string, ino int) api.Entry {
	return api.Entry{Ino: ino, Name: name}
}

// plain is a stack of one of each kind, two of which are Dirs in one another, and one a Dir that is not in the tree; none is a copy.
func plain() api.Stack {
	l := make([]api.Node, last)
	for ino, kind := range map[int]int{root: api.Dir, api.Work: api.Dir, api.Index: api.Dir, file: api.File, link: api.Link, white: api.White, dir: api.Dir, sub: api.Dir, away: api.Dir} {
		l[ino-1] = api.Node{Kind: kind, Nlink: 1}
	}
	s := api.Stack{Geo: api.Geo{Lowers: 1, Inodes: last, Blocks: 9, Log: 5}, Upper: api.Branch{Nodes: l}, Lowers: []api.Branch{{}}}
	fill(s, root, named("d", dir))
	fill(s, dir, named("s", sub))
	return s
}

// fill gives an upper node these entries.
func fill(s api.Stack, ino int, entries ...api.Entry) {
	s.Upper.Nodes[ino-1].Entries = entries
}

// copied gives upper nodes an origin.
func copied(s api.Stack, inos ...int) api.Stack {
	for _, ino := range inos {
		s.Upper.Nodes[ino-1].Attr = api.Attr{Has: api.HasOrigin, Origin: api.Origin{Layer: 1, Ino: 2, Gen: 3}}
	}
	return s
}

// say lets an upper node say whether there are copies in it.
func say(s api.Stack, ino, impure int) {
	s.Upper.Nodes[ino-1].Impure = impure
}

func mustWant(t *testing.T, why string, s api.Stack, ino, want int) {
	t.Helper()
	if got := impure.Want(s, ino); got != want {
		t.Errorf("%s: Want(%d): %d", why, ino, got)
	}
}

// mustFind wants findings of these inodes, in turn.
func mustFind(t *testing.T, why string, s api.Stack, inos ...int) {
	t.Helper()
	var want []api.Finding
	for _, ino := range inos {
		want = append(want, api.Finding{Clause: api.ClauseImpure, Layer: 0, Ino: ino, Slot: -1})
	}
	if got := impure.Findings(s); !slices.Equal(got, want) {
		t.Errorf("%s: Findings: %v, not %v", why, got, want)
	}
}

// P24.1: a Dir in the tree with an entry of a copy, whatever kind that is; and without one.
func TestWant(t *testing.T) {
	for _, in := range []int{root, dir, sub} {
		for _, kind := range append(sample.Strange(), api.File, api.Link, api.White) {
			s := plain()
			s.Upper.Nodes[in-1].Entries = append(s.Upper.Nodes[in-1].Entries, named("x", file))
			s.Upper.Nodes[file-1].Kind = kind
			mustWant(t, "no copies", s, in, 0)
			copied(s, file)
			for ino := -1; ino <= last+1; ino++ {
				want := 0
				if ino == in {
					want = api.Mark
				}
				mustWant(t, "a copy", s, ino, want)
			}
		}
	}
	mustWant(t, "a Dir that is a copy", copied(plain(), dir), root, api.Mark)
	mustWant(t, "a Dir that is a copy itself", copied(plain(), dir), dir, 0)
	mustWant(t, "a copy deeper", copied(plain(), sub), dir, api.Mark)
	mustWant(t, "a copy deeper", copied(plain(), sub), root, 0)
}

// P24.1: which attributes make a copy: HasOrigin, whatever the handle is of.
func TestWantAttributes(t *testing.T) {
	for _, o := range []api.Origin{{}, {Layer: 1, Ino: 1}, {Layer: -1, Ino: math.MaxInt, Gen: math.MinInt}, {Layer: 9, Ino: 9, Gen: 9}} {
		s := plain()
		for _, has := range []int{api.HasOrigin, 12, 20, 31, 36, -1} {
			s.Upper.Nodes[dir-1].Attr = api.Attr{Has: has, Origin: o}
			mustWant(t, "with HasOrigin", s, root, api.Mark)
		}
		for _, has := range []int{0, api.HasOpaque, api.HasRedirect, api.HasShown, api.HasMeta, 27, 32, -5} {
			s.Upper.Nodes[dir-1].Attr = api.Attr{Has: has, Opaque: api.Mark, Redirect: "/d", Origin: o, Shown: 3}
			mustWant(t, "without HasOrigin", s, root, 0)
		}
	}
}

// P24.1: one of several entries is enough, wherever it stands, and whatever its name, and its slot, are.
func TestWantEntries(t *testing.T) {
	others := []api.Entry{named("f", file), named("l", link), named("w", white), named("x", free), named("a", 0), named("b", -1), named("c", last+1), named("d", math.MinInt), named("e", math.MaxInt)}
	for at := range len(others) + 1 {
		s := plain()
		fill(s, root, others...)
		mustWant(t, "none of many", s, root, 0)
		for _, e := range []api.Entry{named("s", sub), named("", sub), named("f", sub), named("/", sub), {Slot: math.MinInt, Ino: sub, Name: "s"}, {Slot: math.MaxInt, Ino: sub, Name: "s"}} {
			fill(s, root, slices.Insert(slices.Clone(others), at, e)...)
			mustWant(t, "one of many", copied(s, sub), root, api.Mark)
		}
	}
	s := copied(plain(), root)
	mustWant(t, "a copy that nothing names", s, root, 0)
	fill(s, sub, named("up", root))
	mustWant(t, "a Dir that has it as a second name", s, sub, api.Mark)
	fill(s, root, named("self", root))
	mustWant(t, "a Dir that has itself", s, root, api.Mark)
	s = copied(plain(), 1, 2, 3, 4, 5, 6, 7, 8, 9, 10)
	fill(s, root, named("a", 0), named("b", -1), named("c", last+1), named("d", math.MinInt), named("e", math.MaxInt))
	mustWant(t, "what is not there is no copy", s, root, 0)
}

// P24.1: an inode that is not there, that is no Dir, or is a Dir that is not in the tree, though it has entries of copies.
func TestWantNothing(t *testing.T) {
	s := copied(plain(), file)
	for ino := root; ino <= last; ino++ {
		fill(s, ino, named("f", file))
	}
	fill(s, root, named("f", file), named("l", link), named("w", white), named("x", free), named("d", dir))
	for ino := root; ino <= last; ino++ {
		want := 0
		if ino == root || ino == dir {
			want = api.Mark
		}
		mustWant(t, "entries of a copy", s, ino, want)
	}
	for _, ino := range append(sample.Far(), -1, 0, last+1) {
		mustWant(t, "an inode that is not there", s, ino, 0)
	}
	for _, kind := range append(sample.Strange(), api.Free, api.File, api.Link, api.White) {
		s.Upper.Nodes[dir-1].Kind = kind
		mustWant(t, "no Dir that has entries", s, dir, 0)
	}
	for _, kind := range append(sample.Strange(), api.Free, api.File, api.Link, api.White) {
		s := copied(plain(), dir, sub)
		s.Upper.Nodes[root-1].Kind = kind
		for ino := root; ino <= last; ino++ {
			mustWant(t, "no root", s, ino, 0)
		}
	}
}

// P24.1: Work and Index want nothing as long as they are not in the tree, and what all Dirs want if they are.
func TestWantSpecial(t *testing.T) {
	for _, ino := range []int{api.Work, api.Index} {
		s := copied(plain(), file)
		fill(s, ino, named("f", file))
		mustWant(t, "outside", s, ino, 0)
		mustFind(t, "outside", s)
		say(s, ino, api.Mark)
		mustFind(t, "outside, with a mark", s, ino)
		fill(s, root, named("x", ino))
		mustWant(t, "in the tree", s, ino, api.Mark)
		mustFind(t, "in the tree, with a mark", s)
		say(s, ino, 0)
		mustFind(t, "in the tree", s, ino)
	}
}

// P24.1: findings of an Impure that is Mark where it should be 0, 0 where it should be Mark, and neither.
func TestFindings(t *testing.T) {
	mustFind(t, "no copies", plain())
	for _, said := range append(sample.Far(), -1, 0, 1, api.Mark-1, api.Mark, api.Mark+1, -api.Mark, api.Mark+256, api.Mark+1<<32) {
		s := plain()
		say(s, dir, said)
		if said == 0 {
			mustFind(t, "no copies", s)
		} else {
			mustFind(t, "no copies", s, dir)
		}
		copied(s, sub)
		if said == api.Mark {
			mustFind(t, "a copy", s)
		} else {
			mustFind(t, "a copy", s, dir)
		}
	}
	s := plain()
	fill(s, root, named("f", file))
	mustFind(t, "the chapter's example", copied(s, file), root)
}

// P24.1: nodes that are no Dir, and are in the tree, are asked for 0.
func TestFindingsNoDir(t *testing.T) {
	for _, kind := range append(sample.Strange(), api.Free, api.File, api.Link, api.White) {
		s := plain()
		fill(s, root, named("f", file), named("g", file))
		s.Upper.Nodes[file-1].Kind = kind
		mustFind(t, "no Dir", s)
		for _, said := range append(sample.Far(), -1, 1, api.Mark-1, api.Mark, api.Mark+1) {
			say(s, file, said)
			mustFind(t, "no Dir", s, file)
			say(copied(s, link), file, said)
			fill(s, file, named("l", link))
			mustFind(t, "no Dir, with an entry of a copy", s, file)
		}
	}
}

// P24.1: Work and Index, if they are Dirs, are asked; if they are none, and not in the tree, they are not.
func TestFindingsSpecial(t *testing.T) {
	for _, said := range append(sample.Far(), -1, 1, api.Mark-1, api.Mark, api.Mark+1) {
		s := plain()
		say(s, api.Work, said)
		mustFind(t, "Work", s, api.Work)
		say(s, api.Index, said)
		mustFind(t, "both", s, api.Work, api.Index)
		say(s, api.Work, 0)
		mustFind(t, "Index", s, api.Index)
		say(s, api.Work, said)
		for _, kind := range append(sample.Strange(), api.Free, api.File, api.Link, api.White) {
			s.Upper.Nodes[api.Work-1].Kind, s.Upper.Nodes[api.Index-1].Kind = kind, kind
			fill(s, root)
			mustFind(t, "that are none", s)
			fill(s, root, named("i", api.Index), named("w", api.Work))
			mustFind(t, "that are none, in the tree", s, api.Work, api.Index)
		}
	}
}

// P24.1: a node that is neither in the tree nor one of these two is not asked, and one of several names is told once, by Ino.
func TestFindingsElsewhere(t *testing.T) {
	s := plain()
	for ino := root; ino <= last; ino++ {
		say(s, ino, 3)
	}
	mustFind(t, "some elsewhere", s, root, api.Work, api.Index, dir, sub)
	fill(s, away, named("f", file))
	fill(s, api.Work, named("f", file))
	fill(s, api.Index, named("l", link))
	fill(s, file, named("x", free))
	mustFind(t, "some named elsewhere", s, root, api.Work, api.Index, dir, sub)
	fill(s, root, named("z", away), named("f", file), named("a", dir), named("g", file), named("f", file), named("i", api.Index), named("n", 0), named("m", last+1))
	fill(s, dir, named("up", root), named("s", sub), named("x", free), named("w", white))
	mustFind(t, "all, in any order", s, 1, 2, 3, 4, 5, 6, 7, 8, 9, 10)
	for _, kind := range append(sample.Strange(), api.Free, api.File, api.Link, api.White) {
		s.Upper.Nodes[root-1].Kind = kind
		mustFind(t, "no root", s, api.Work, api.Index)
	}
}

// P24.2: whoever has Impure as Want says has no finding, and whoever has not has one, if it is asked.
func TestFindingsAndWant(t *testing.T) {
	s := copied(plain(), sub, file)
	fill(s, root, named("d", dir), named("f", file))
	for ino := root; ino <= last; ino++ {
		say(s, ino, impure.Want(s, ino))
	}
	mustFind(t, "all as Want says", s)
	for ino, asked := range map[int]bool{root: true, api.Work: true, api.Index: true, file: true, dir: true, sub: true, link: false, white: false, free: false, away: false} {
		say(s, ino, impure.Want(s, ino)+1)
		if asked {
			mustFind(t, "one is not as Want says", s, ino)
		} else {
			mustFind(t, "one that is not asked", s)
		}
		say(s, ino, impure.Want(s, ino))
	}
}

// P24.1: stacks without anything, without lower layers, and with fewer nodes than the special ones.
func TestWrongStacks(t *testing.T) {
	mustFind(t, "nothing", api.Stack{})
	for _, ino := range append(sample.Far(), -1, 0, 1, 2, 3, 4) {
		mustWant(t, "nothing", api.Stack{}, ino, 0)
	}
	for many := range api.Index + 1 {
		s := plain()
		for ino := root; ino <= last; ino++ {
			say(s, ino, 1)
		}
		s.Upper.Nodes = s.Upper.Nodes[:many]
		s.Lowers = nil
		mustFind(t, "few nodes", s, []int{1, 2, 3}[:many]...)
		for ino := -1; ino <= last; ino++ {
			mustWant(t, "few nodes", s, ino, 0)
		}
	}
	s := copied(plain(), dir)
	s.Lowers = nil
	mustWant(t, "no lower layers", s, root, api.Mark)
	mustFind(t, "no lower layers", s, root)
}

// The layout is not asked: all that counts are the nodes that are there.
func TestAsksNoLayout(t *testing.T) {
	for _, n := range append(sample.Far(), -1, 0, 1) {
		s := copied(plain(), dir)
		s.Geo = api.Geo{Lowers: n, Inodes: n, Blocks: n, Log: n}
		mustWant(t, "any layout", s, root, api.Mark)
		mustFind(t, "any layout", s, root)
	}
}

// some is a stack of entries, origins and marks at random.
func some(r *rand.Rand) api.Stack {
	s := plain()
	for ino := root; ino <= last; ino++ {
		n := &s.Upper.Nodes[ino-1]
		for range r.Intn(4) {
			n.Entries = append(n.Entries, api.Entry{Slot: r.Intn(api.Slots), Ino: r.Intn(last+3) - 1, Name: "x"})
		}
		if r.Intn(4) == 0 {
			n.Attr.Has = r.Intn(32)
		}
		if r.Intn(6) == 0 {
			n.Kind = r.Intn(7) - 1
		}
		n.Impure = []int{0, 0, api.Mark, 1}[r.Intn(4)]
	}
	return s
}

// wants is the second reading of Want, of all inodes: each entry tells the Dir that it stands in.
func wants(s api.Stack, in []bool) map[int]int {
	want := map[int]int{}
	for i, n := range s.Upper.Nodes {
		for _, e := range n.Entries {
			if n.Kind == 1 && in[i+1] && e.Ino >= 1 && e.Ino <= len(s.Upper.Nodes) && s.Upper.Nodes[e.Ino-1].Attr.Has&4 != 0 {
				want[i+1] = 121
			}
		}
	}
	return want
}

// P24.1, P24.2: many stacks, held against the second reading.
func TestMany(t *testing.T) {
	r := rand.New(rand.NewSource(1))
	met := map[[2]int]int{}
	for range 20000 {
		s := some(r)
		in := sample.InTree(s.Upper)
		want := wants(s, in)
		var found []int
		for i, n := range s.Upper.Nodes {
			ino := i + 1
			asked := in[ino] || n.Kind == 1 && (ino == 2 || ino == 3)
			if asked && n.Impure != want[ino] {
				found = append(found, ino)
			}
			if asked {
				met[[2]int{n.Impure, want[ino]}]++
			}
		}
		for ino := -1; ino <= last+1; ino++ {
			mustWant(t, "any", s, ino, want[ino])
		}
		mustFind(t, "any", s, found...)
		if t.Failed() {
			t.Fatal(s)
		}
	}
	for _, said := range []int{0, 1, api.Mark} {
		if met[[2]int{said, 0}] < 2000 || met[[2]int{said, api.Mark}] < 2000 {
			t.Fatal(met)
		}
	}
}

// shared is a stack with findings.
func shared() api.Stack {
	s := copied(plain(), dir, sub)
	say(s, api.Work, api.Mark)
	say(s, sub, 7)
	return s
}

// What is handed in stays as it is, and answers share no memory with it, nor with one another.
func TestAnswersShareNothing(t *testing.T) {
	s := shared()
	found := impure.Findings(s)
	want := slices.Clone(found)
	if len(found) != 4 {
		t.Fatal(found)
	}
	again := impure.Findings(s)
	clear(found[:cap(found)])
	for ino := range s.Upper.Nodes {
		impure.Want(s, ino)
	}
	if !reflect.DeepEqual(s, shared()) {
		t.Error("what was handed in is changed")
	}
	clear(s.Upper.Nodes)
	if !slices.Equal(again, want) {
		t.Errorf("%v, not %v", again, want)
	}
	if got := impure.Findings(shared()); !slices.Equal(got, want) {
		t.Errorf("%v, not %v: an answer is kept", got, want)
	}
}
