package tally_test

import (
	"math"
	"math/rand"
	"reflect"
	"slices"
	"testing"

	"craquelure/api"
	"craquelure/sample"
	"craquelure/tally"
	"craquelure/walk"
)

const root = api.Root

// Inodes of upper layers.
const (
	file, link, white, free = 4, 5, 6, 7
	dir, sub, away, out     = 8, 9, 10, 11
	strange, lone, last     = 12, 13, 14
)

// kinds is one of each kind, and Dirs that nothing names.
func kinds() map[int]int {
	return map[int]int{root: api.Dir, api.Work: api.Dir, api.Index: api.Dir, file: api.File, link: api.Link, white: api.White, dir: api.Dir, sub: api.Dir, away: api.Dir, out: api.Dir, strange: 5, lone: api.File, last: api.Link}
}

func named(name string, ino int) api.Entry {
	return api.Entry{Ino: ino, Name: name}
}

func above(entries ...api.Entry) api.Branch {
	b := api.Branch{Nodes: make([]api.Node, last)}
	for ino, kind := range kinds() {
		b.Nodes[ino-1] = api.Node{Kind: kind}
	}
	fill(b, root, entries...)
	return b
}

// fill gives a node these entries.
func fill(b api.Branch, ino int, entries ...api.Entry) {
	b.Nodes[ino-1].Entries = sample.Slotted(entries)
}

// say lets a node say that it has so many names.
func say(b api.Branch, ino, names int) {
	b.Nodes[ino-1].Nlink = names
}

// agreed lets each node say what it should.
func agreed(b api.Branch) api.Branch {
	for i := range b.Nodes {
		say(b, i+1, tally.Names(b, i+1))
	}
	return b
}

func noDirs() []int {
	return append(sample.Strange(), api.Free, api.File, api.Link, api.White)
}

func mustNames(t *testing.T, why string, b api.Branch, ino, want int) {
	t.Helper()
	if got := tally.Names(b, ino); got != want {
		t.Errorf("%s: Names(%d): %d, not %d", why, ino, got, want)
	}
}

func mustCount(t *testing.T, why string, b api.Branch, ino int, want complex128) {
	t.Helper()
	got := tally.Counts(b)
	if len(got) != len(b.Nodes) {
		t.Fatalf("%s: Counts: %v of %d nodes", why, got, len(b.Nodes))
	}
	if got[ino-1] != want {
		t.Errorf("%s: Counts: %v of %d, not %v", why, got[ino-1], ino, want)
	}
}

// mustFind wants findings of these inodes, in turn.
func mustFind(t *testing.T, why string, b api.Branch, inos ...int) {
	t.Helper()
	var want []api.Finding
	for _, ino := range inos {
		want = append(want, api.Finding{Clause: api.ClauseLinks, Layer: 0, Ino: ino, Slot: -1})
	}
	if got := tally.Findings(api.Stack{Upper: b}); !slices.Equal(got, want) {
		t.Errorf("%s: Findings: %v, not %v", why, got, want)
	}
}

// P25.1: an Ino below 1, or behind the last node, though entries name it.
func TestNamesOfNoInode(t *testing.T) {
	for _, ino := range append(sample.Far(), -1, 0, last+1) {
		mustNames(t, "not named", above(), ino, 0)
		mustNames(t, "named", above(named("x", ino), named("y", ino)), ino, 0)
		mustNames(t, "of no nodes", api.Branch{}, ino, 0)
	}
	for ino := range last + 1 {
		mustNames(t, "of no nodes", api.Branch{}, ino, 0)
	}
}

// P25.1: a Dir: without entries, and with entries of each kind, of which those that name Dirs count.
func TestNamesOfDir(t *testing.T) {
	for _, in := range []int{root, api.Work, api.Index, dir, sub} {
		b := above(named("d", dir))
		fill(b, dir, named("s", sub))
		ahead := b.Nodes[in-1].Entries
		want := 2 + len(ahead)
		mustNames(t, "an empty one", b, in, want)
		for ino := -1; ino <= last+1; ino++ {
			fill(b, in, append(slices.Clone(ahead), named("x", ino))...)
			if kinds()[ino] == api.Dir {
				mustNames(t, "an entry of a Dir", b, in, want+1)
			} else {
				mustNames(t, "an entry of what is no Dir", b, in, want)
			}
		}
		for _, ino := range sample.Far() {
			fill(b, in, append(slices.Clone(ahead), named("x", ino))...)
			mustNames(t, "an entry of what is not there", b, in, want)
		}
		fill(b, in, append(slices.Clone(ahead), named("f", file), named("a", away), named("n", 0), named("b", away), named("l", link), named("m", last+1), named("o", out), named("x", strange), named("y", free))...)
		mustNames(t, "entries of Dirs, one of which is named twice, and of others", b, in, want+3)
		mustNames(t, "a Dir that is named twice", b, away, 2)
		mustNames(t, "a Dir that is named once", b, out, 2)
		fill(b, in, append(slices.Clone(ahead), named("self", in))...)
		mustNames(t, "itself", b, in, want+1)
		fill(b, in, append(slices.Clone(ahead), named("self", in), named("root", root), named("", in), named("self", in))...)
		mustNames(t, "itself several times, and the root", b, in, want+4)
	}
}

// P25.1: an entry counts for the Dir that it stands in alone, not for what it names, nor for those ahead.
func TestNamesOfDirsInDirs(t *testing.T) {
	b := above(named("d", dir), named("f", file))
	fill(b, dir, named("s", sub), named("a", away))
	fill(b, sub, named("d", dir), named("o", out), named("r", root))
	for ino, want := range map[int]int{root: 3, dir: 4, sub: 5, away: 2, out: 2, api.Work: 2, api.Index: 2} {
		mustNames(t, "Dirs in Dirs", b, ino, want)
	}
}

// P25.1: what is no Dir: named once, twice in one directory, in two, and in one that is not come to; whatever kind it is.
func TestNamesOfOthers(t *testing.T) {
	for _, kind := range noDirs() {
		b := above()
		b.Nodes[file-1].Kind = kind
		mustNames(t, "not at all", b, file, 0)
		fill(b, root, named("l", link), named("a", file), named("d", dir))
		mustNames(t, "once", b, file, 1)
		fill(b, root, named("a", file), named("l", link), named("b", file), named("a", file))
		mustNames(t, "several times in one directory", b, file, 3)
		fill(b, root, named("a", file), named("d", dir), named("b", file), named("s", sub))
		fill(b, dir, named("a", file), named("l", link))
		mustNames(t, "in two", b, file, 3)
		fill(b, sub, named("w", white), named("z", file), named("", file))
		mustNames(t, "in three", b, file, 5)
		fill(b, away, named("a", file), named("o", out), named("self", away))
		fill(b, out, named("a", file))
		mustNames(t, "and in those that are not come to", b, file, 5)
		for _, no := range []int{link, white, free, strange, lone} {
			fill(b, no, named("a", file), named("b", file))
		}
		fill(b, root, append(slices.Clone(b.Nodes[root-1].Entries), named("l", link), named("w", white), named("n", free), named("x", strange))...)
		mustNames(t, "and in what is no Dir", b, file, 5)
		mustNames(t, "another one", b, link, 2)
		fill(b, file, named("self", file))
		mustNames(t, "and in itself", b, file, 5)
		mustNames(t, "one that is named where one does not come to", b, lone, 0)
	}
}

// P25.1: a directory that is named twice is come to once, and what is in it is named once.
func TestNamesInDirTwice(t *testing.T) {
	b := above(named("d", dir), named("e", dir), named("s", sub))
	fill(b, dir, named("a", file), named("self", dir), named("up", root))
	fill(b, sub, named("d", dir))
	fill(b, api.Index, named("d", dir), named("s", sub))
	fill(b, api.Work, named("d", dir), named("f", file))
	for ino, want := range map[int]int{root: 5, dir: 4, sub: 3, file: 2, api.Index: 4, api.Work: 3} {
		mustNames(t, "by many ways", b, ino, want)
	}
}

// P25.1: what is reached from Root, from Index and from Work alone, also deeper, counts together; what is not reached has no names.
func TestNamesReached(t *testing.T) {
	specials := []int{root, api.Index, api.Work}
	for _, in := range specials {
		b := above()
		fill(b, in, named("d", dir), named("f", file))
		fill(b, dir, named("s", sub), named("l", link))
		fill(b, sub, named("l", link), named("a", away))
		for ino, want := range map[int]int{in: 3, file: 1, dir: 3, link: 2, sub: 3, away: 2, white: 0, out: 0, lone: 0} {
			mustNames(t, "from one alone", b, ino, want)
		}
		for _, kind := range noDirs() {
			b.Nodes[in-1].Kind = kind
			for _, ino := range []int{in, file, dir, link, sub, away} {
				mustNames(t, "from what is no Dir", b, ino, 0)
			}
			for _, other := range specials {
				if other != in {
					mustNames(t, "an empty special one", b, other, 2)
				}
			}
		}
	}
	b := above(named("f", file))
	fill(b, api.Index, named("f", file), named("g", file))
	fill(b, api.Work, named("f", file))
	mustNames(t, "from all of them", b, file, 4)
	fill(b, away, named("self", away), named("o", out), named("f", lone))
	fill(b, out, named("a", away), named("f", lone))
	for _, ino := range []int{away, out, lone} {
		mustNames(t, "Dirs that lead to one another alone", b, ino, 0)
	}
	b = above(named("i", api.Index), named("w", api.Work), named("r", root))
	for _, ino := range specials {
		want := 2
		if ino == root {
			want = 5
		}
		mustNames(t, "special ones that are named", b, ino, want)
	}
}

// P25.1: both parts, of nodes that are reached, and of ones that are not; a Free one says nothing.
func TestCounts(t *testing.T) {
	b := above(named("f", file), named("g", file), named("w", white), named("n", free), named("d", dir), named("x", strange))
	fill(b, dir, named("n", free), named("s", sub))
	for ino := root; ino <= last; ino++ {
		say(b, ino, 100+ino)
	}
	want := []complex128{3 + 101i, 2 + 102i, 2 + 103i, 2 + 104i, 0, 1 + 106i, 2, 3 + 108i, 2 + 109i, 0, 0, 1 + 112i, 0, 0}
	for ino := root; ino <= last; ino++ {
		mustCount(t, "all kinds", b, ino, want[ino-1])
	}
	agreed(b)
	want = []complex128{3 + 3i, 2 + 2i, 2 + 2i, 2 + 2i, 0, 1 + 1i, 2, 3 + 3i, 2 + 2i, 0, 0, 1 + 1i, 0, 0}
	for ino := root; ino <= last; ino++ {
		mustCount(t, "all kinds, as they should be", b, ino, want[ino-1])
	}
	mustCount(t, "the chapter's example", api.Branch{Nodes: []api.Node{{Kind: api.Dir, Nlink: 2}}}, root, 2+2i)
	if l := tally.Counts(api.Branch{}); len(l) != 0 {
		t.Errorf("no nodes: %v", l)
	}
}

// P25.1: an Nlink of any number.
func TestCountsOfAnyNumber(t *testing.T) {
	for _, n := range append(sample.Far(), -1, 0, 1, 2, 3) {
		for _, ino := range []int{root, api.Index, api.Work, file, link, white, strange, dir} {
			b := above(named("f", file), named("l", link), named("w", white), named("x", strange), named("d", dir))
			names := tally.Names(b, ino)
			agreed(b)
			say(b, ino, n)
			mustCount(t, "reached", b, ino, complex(float64(names), float64(n)))
			if n == names {
				mustFind(t, "as it should be", b)
			} else {
				mustFind(t, "not as it should be", b, ino)
			}
		}
		for _, ino := range []int{free, away, lone} {
			b := agreed(above())
			say(b, ino, n)
			mustCount(t, "not reached", b, ino, 0)
			mustFind(t, "not reached", b)
		}
		b := agreed(above(named("n", free)))
		say(b, free, n)
		mustCount(t, "free", b, free, 1)
		mustFind(t, "free", b, free)
	}
}

// P25.2: nodes whose parts are alike have none; each that has unlike ones has one, by Ino, however they are come to.
func TestFindings(t *testing.T) {
	b := above(named("z", sub), named("y", link), named("x", dir), named("w", white))
	fill(b, dir, named("b", away), named("a", file))
	fill(b, sub, named("f", file))
	fill(b, api.Work, named("s", strange))
	fill(b, api.Index, named("l", link))
	agreed(b)
	mustFind(t, "like parts", b)
	for ino := root; ino <= last; ino++ {
		names := tally.Names(b, ino)
		for _, n := range []int{names - 1, names + 1, -names - 1, names + 1<<16, names + 1<<32} {
			say(b, ino, n)
			if names > 0 {
				mustFind(t, "one with unlike parts", b, ino)
			} else {
				mustFind(t, "one that is not reached", b)
			}
		}
		say(b, ino, names)
	}
	for ino := last; ino >= root; ino-- {
		say(b, ino, 77)
	}
	mustFind(t, "unlike ones, by Ino", b, root, api.Work, api.Index, file, link, white, dir, sub, away, strange)
	mustFind(t, "no nodes", api.Branch{})
	b = above(named("f", file))
	agreed(b)
	say(b, file, 3)
	mustFind(t, "a File that says that it has 3 names, and has 1", b, file)
}

// P25.2: what one says too much does not make up for what another one says too little.
func TestUnlikeParts(t *testing.T) {
	b := agreed(above(named("a", file), named("b", link), named("c", link)))
	say(b, file, 2)
	say(b, link, 1)
	mustFind(t, "alike together", b, file, link)
	b = above(named("a", file))
	mustFind(t, "all say 0", b, root, api.Work, api.Index, file)
}

// P25.2: layers with fewer nodes than there are special ones.
func TestFewNodes(t *testing.T) {
	for many := range api.Index + 1 {
		b := above(named("f", file), named("i", api.Index), named("w", api.Work), named("l", last))
		b.Nodes = b.Nodes[:many]
		want := []int{0, 2, 3, 4}[many]
		if many > 0 {
			mustNames(t, "few nodes", b, root, want)
		}
		if got := tally.Counts(b); len(got) != many {
			t.Errorf("%d nodes: %v", many, got)
		}
		mustFind(t, "few nodes", b, []int{1, 2, 3}[:many]...)
	}
}

// P25.2: the layout, and the lower layers, are not asked.
func TestAsksUpperAlone(t *testing.T) {
	low := above(named("f", file), named("d", dir), named("e", dir))
	b := agreed(above(named("f", file)))
	say(b, file, 2)
	want := []api.Finding{{Clause: api.ClauseLinks, Ino: file, Slot: -1}}
	for _, lowers := range [][]api.Branch{nil, {}, {{}}, {low}, {low, low, low, low}} {
		for _, n := range append(sample.Far(), -1, 0, 1) {
			s := api.Stack{Geo: api.Geo{Lowers: n, Inodes: n, Blocks: n, Log: n}, Upper: b, Lowers: lowers}
			if got := tally.Findings(s); !slices.Equal(got, want) {
				t.Errorf("%d, %v: %v", n, lowers, got)
			}
		}
	}
	if got := tally.Findings(api.Stack{}); len(got) != 0 {
		t.Error(got)
	}
	if got := tally.Findings(api.Stack{Lowers: []api.Branch{low}}); len(got) != 0 {
		t.Error(got)
	}
}

// some is a layer of entries and numbers at random, most of which nearly fit.
func some(r *rand.Rand) api.Branch {
	b := api.Branch{Nodes: make([]api.Node, 1+r.Intn(10))}
	for i := range b.Nodes {
		n := &b.Nodes[i]
		n.Kind = []int{0, 1, 1, 1, 2, 2, 3, 4, 5, -1}[r.Intn(10)]
		if i < api.Index && r.Intn(8) > 0 {
			n.Kind = api.Dir
		}
		n.Nlink = r.Intn(5)
		for range r.Intn(5) {
			n.Entries = append(n.Entries, api.Entry{Slot: r.Intn(api.Slots), Ino: r.Intn(len(b.Nodes)+3) - 1, Name: "x"})
		}
	}
	return b
}

// reading is the second reading of Names, of all inodes.
func reading(b api.Branch, in []bool) []int {
	names := make([]int, len(in))
	for ino := 1; ino < len(in); ino++ {
		if !in[ino] {
			continue
		}
		if b.Nodes[ino-1].Kind == 1 {
			names[ino] += 2
		}
		for k, n := range b.Nodes {
			for _, e := range n.Entries {
				there := e.Ino >= 1 && e.Ino < len(in)
				switch {
				case n.Kind != 1 || !in[k+1] || !there:
				case b.Nodes[e.Ino-1].Kind == 1 && k+1 == ino, b.Nodes[e.Ino-1].Kind != 1 && e.Ino == ino:
					names[ino]++
				}
			}
		}
	}
	return names
}

// P25.1, P25.2: many layers, held against the second reading.
func TestMany(t *testing.T) {
	r := rand.New(rand.NewSource(1))
	met := map[string]int{}
	for range 20000 {
		b := some(r)
		in := sample.Reached(b, 1, 2, 3)
		names := reading(b, in)
		var found []int
		for i, n := range b.Nodes {
			ino := i + 1
			says := n.Nlink
			if n.Kind == 0 || !in[ino] {
				says = 0
			}
			mustNames(t, "any", b, ino, names[ino])
			mustCount(t, "any", b, ino, complex(float64(names[ino]), float64(says)))
			if names[ino] != says {
				found = append(found, ino)
			}
			switch {
			case !in[ino]:
				met["away"]++
			case n.Kind == 1 && names[ino] > 2, n.Kind > 1 && names[ino] > 1:
				met["several"]++
			}
			if in[ino] && names[ino] == says {
				met["alike"]++
			}
		}
		mustFind(t, "any", b, found...)
		if t.Failed() {
			t.Fatal(b)
		}
	}
	for _, x := range []string{"away", "several", "alike"} {
		if met[x] < 4000 {
			t.Fatal(met)
		}
	}
}

// P25.3: the Names of all that are no Dirs, together, are all names in directories that are no Dirs', though Dirs are named twice.
func TestNamesTogether(t *testing.T) {
	r := rand.New(rand.NewSource(2))
	twice := 0
	for range 10000 {
		b := some(r)
		sum, all := 0, 0
		for i, n := range b.Nodes {
			if n.Kind != api.Dir {
				sum += tally.Names(b, i+1)
			}
		}
		for _, way := range walk.Dirs(b, root, api.Index, api.Work) {
			for _, e := range b.Nodes[way.Ino-1].Entries {
				if e.Ino >= 1 && e.Ino <= len(b.Nodes) && b.Nodes[e.Ino-1].Kind != api.Dir {
					all++
				}
			}
		}
		if sum != all {
			t.Fatalf("%v: %d, not %d", b, sum, all)
		}
		if all > 0 && len(walk.Twice(b, root, api.Index, api.Work)) > 0 {
			twice++
		}
	}
	if twice < 3000 {
		t.Fatal(twice)
	}
}

// P0: many nodes, and many names.
func TestManyNames(t *testing.T) {
	const many = 70000
	b := above()
	for i := range many {
		b.Nodes[root-1].Entries = append(b.Nodes[root-1].Entries, api.Entry{Slot: i, Ino: file, Name: "f"})
		b.Nodes[api.Work-1].Entries = append(b.Nodes[api.Work-1].Entries, api.Entry{Slot: i, Ino: dir, Name: "d"})
	}
	mustNames(t, "a File", b, file, many)
	mustNames(t, "a Dir that has Dirs", b, api.Work, many+2)
	mustNames(t, "a Dir that is named", b, dir, 2)
	agreed(b)
	mustFind(t, "many names", b)
	say(b, file, api.MaxCount)
	mustFind(t, "many names", b, file)
	deep := api.Branch{}
	for i := range 2000 {
		deep.Nodes = append(deep.Nodes, api.Node{Kind: api.Dir, Nlink: math.MaxInt, Entries: []api.Entry{named("d", i+2), named("up", i)}})
	}
	mustCount(t, "deep", deep, 1000, complex(4, math.MaxInt))
}

// shared is a stack with findings.
func shared() api.Stack {
	b := agreed(above(named("f", file), named("d", dir), named("e", dir)))
	fill(b, dir, named("f", file))
	say(b, api.Work, 9)
	b.Nodes[file-1].Data = []byte{1, 2}
	return api.Stack{Geo: api.Geo{Lowers: 1, Inodes: last, Blocks: 9, Log: 5}, Upper: b, Lowers: []api.Branch{above()}}
}

// What is handed in stays as it is, and answers share no memory with it, nor with one another.
func TestAnswersShareNothing(t *testing.T) {
	s := shared()
	found, counts := tally.Findings(s), tally.Counts(s.Upper)
	again, counted := tally.Findings(s), tally.Counts(s.Upper)
	want, wanted := slices.Clone(found), slices.Clone(counts)
	if len(found) != 2 || counts[file-1] != 2+1i {
		t.Fatal(found, counts)
	}
	clear(found[:cap(found)])
	clear(counts[:cap(counts)])
	for ino := range last + 2 {
		tally.Names(s.Upper, ino)
	}
	if !reflect.DeepEqual(s, shared()) {
		t.Error("what was handed in is changed")
	}
	clear(s.Upper.Nodes)
	if !slices.Equal(again, want) || !slices.Equal(counted, wanted) {
		t.Errorf("%v, %v, not %v, %v", again, counted, want, wanted)
	}
	s = shared()
	if got := tally.Findings(s); !slices.Equal(got, want) {
		t.Errorf("%v, not %v: an answer is kept", got, want)
	}
	if got := tally.Counts(s.Upper); !slices.Equal(got, wanted) {
		t.Errorf("%v, not %v: an answer is kept", got, wanted)
	}
}
