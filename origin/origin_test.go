package origin_test

import (
	"math"
	"math/rand"
	"reflect"
	"slices"
	"testing"

	"craquelure/api"
	"craquelure/origin"
	"craquelure/sample"
	"craquelure/walk"
)

const root = api.Root

// Inodes of lower layers, and the Gen of all that is live in them.
const (
	lowDir, lowFile, lowLink, lowWhite, lowFree, lowStrange = 2, 3, 4, 5, 6, 7
	gen                                                     = 7
)

// Inodes of upper layers: others than those of lower ones, so that none is taken for one of these.
const (
	file, link, white, free = 11, 12, 13, 14
	dir, sub, last          = 15, 16, 17
	none                    = 99
)

func named(name string, ino int) api.Entry {
	return api.Entry{Ino: ino, Name: name}
}

func above(entries ...api.Entry) api.Branch {
	l := make([]api.Node, last)
	for ino, kind := range map[int]int{root: api.Dir, api.Work: api.Dir, api.Index: api.Dir, file: api.File, link: api.Link, white: api.White, dir: api.Dir, sub: api.Dir, last: api.Dir} {
		l[ino-1] = api.Node{Kind: kind, Nlink: 1}
	}
	l[root-1].Entries = sample.Slotted(entries)
	return api.Branch{Nodes: l}
}

func below() api.Branch {
	l := make([]api.Node, lowStrange)
	for ino, kind := range map[int]int{root: api.Dir, lowDir: api.Dir, lowFile: api.File, lowLink: api.Link, lowWhite: api.White, lowFree: api.Free, lowStrange: 5} {
		l[ino-1] = api.Node{Kind: kind, Nlink: 1, Gen: gen}
	}
	l[root-1].Gen = 0
	return api.Branch{Nodes: l}
}

func stack(up api.Branch, lowers ...api.Branch) api.Stack {
	return api.Stack{Geo: api.Geo{Lowers: len(lowers), Inodes: last, Blocks: 9, Log: 5}, Upper: up, Lowers: lowers}
}

// two is a stack of two lower layers, of which the second one has a File and a Dir where the first one has a Dir and a File.
func two(up ...api.Entry) api.Stack {
	s := stack(above(up...), below(), below())
	s.Lowers[1].Nodes[lowDir-1].Kind, s.Lowers[1].Nodes[lowFile-1].Kind = api.File, api.Dir
	return s
}

// fill gives an upper node these entries.
func fill(s api.Stack, ino int, entries ...api.Entry) {
	s.Upper.Nodes[ino-1].Entries = sample.Slotted(entries)
}

// mark gives an upper node these attributes.
func mark(s api.Stack, ino int, a api.Attr) {
	s.Upper.Nodes[ino-1].Attr = a
}

// from is attributes that have what has says, with the origin at that place.
func from(has, layer, ino int) api.Attr {
	return api.Attr{Has: has, Origin: api.Origin{Layer: layer, Ino: ino, Gen: gen}}
}

// origins is handles that tell a Dir, a File and a Link of two, by the kind that is told, and ones that tell none, by Free.
func origins() map[int][]api.Origin {
	nothing := []api.Origin{
		{}, {Layer: 1}, {Layer: 0, Ino: lowDir, Gen: gen}, {Layer: 3, Ino: lowDir, Gen: gen}, {Layer: -1, Ino: lowDir, Gen: gen},
		{Layer: 1, Ino: lowWhite, Gen: gen}, {Layer: 1, Ino: lowFree, Gen: gen}, {Layer: 1, Ino: lowFree}, {Layer: 1, Ino: lowStrange, Gen: gen}, {Layer: 2, Ino: lowStrange + 1, Gen: gen},
		{Layer: 1, Ino: lowDir, Gen: gen + 1}, {Layer: 1, Ino: lowFile, Gen: gen - 1}, {Layer: 1, Ino: lowLink}, {Layer: 1, Ino: lowFile, Gen: -gen}, {Layer: 1, Ino: root, Gen: gen},
		{Layer: 0, Ino: dir, Gen: 0}, {Layer: 0, Ino: file, Gen: 0},
	}
	for _, n := range sample.Far() {
		nothing = append(nothing, api.Origin{Layer: n, Ino: lowFile, Gen: gen}, api.Origin{Layer: 1, Ino: n, Gen: gen}, api.Origin{Layer: 1, Ino: lowFile, Gen: n})
	}
	return map[int][]api.Origin{
		api.Free: nothing,
		api.Dir:  {{Layer: 1, Ino: lowDir, Gen: gen}, {Layer: 2, Ino: lowFile, Gen: gen}, {Layer: 1, Ino: root}},
		api.File: {{Layer: 1, Ino: lowFile, Gen: gen}, {Layer: 2, Ino: lowDir, Gen: gen}},
		api.Link: {{Layer: 1, Ino: lowLink, Gen: gen}, {Layer: 2, Ino: lowLink, Gen: gen}},
	}
}

func mustStale(t *testing.T, why string, s api.Stack, n api.Node, want bool) {
	t.Helper()
	if got := origin.Stale(s, n); got != want {
		t.Errorf("%s: Stale(%v): %v", why, n, got)
	}
}

func mustLack(t *testing.T, why string, s api.Stack, n api.Node, want bool) {
	t.Helper()
	if got := origin.Lacks(s, n); got != want {
		t.Errorf("%s: Lacks(%v): %v", why, n, got)
	}
}

func mustOdd(t *testing.T, why string, n api.Node, want bool) {
	t.Helper()
	if got := origin.Odd(n); got != want {
		t.Errorf("%s: Odd(%v): %v", why, n, got)
	}
}

// mustFind wants findings of these clauses and inodes, in turn.
func mustFind(t *testing.T, why string, s api.Stack, l ...int) {
	t.Helper()
	var want []api.Finding
	for i := 0; i < len(l); i += 2 {
		want = append(want, api.Finding{Clause: l[i], Layer: 0, Ino: l[i+1], Slot: -1})
	}
	if got := origin.Findings(s); !slices.Equal(got, want) {
		t.Errorf("%s: Findings: %v, not %v", why, got, want)
	}
}

// P22.1: a marker that is Mark, or another one, of a Dir and of all others.
func TestOdd(t *testing.T) {
	for mark := -1; mark <= 256; mark++ {
		for _, has := range []int{api.HasOpaque, 31, 33, -1} {
			a := api.Attr{Has: has, Opaque: mark}
			mustOdd(t, "a Dir", api.Node{Kind: api.Dir, Attr: a}, mark != api.Mark)
			for _, kind := range append(sample.Strange(), api.Free, api.File, api.Link, api.White) {
				mustOdd(t, "no Dir", api.Node{Kind: kind, Attr: a}, true)
			}
		}
	}
	for _, mark := range append(sample.Far(), -api.Mark, api.Mark+256, api.Mark+1<<32) {
		mustOdd(t, "a marker far off", api.Node{Kind: api.Dir, Attr: api.Attr{Has: api.HasOpaque, Opaque: mark}}, true)
	}
	mustOdd(t, "all else is not asked", api.Node{Kind: api.Dir, Impure: api.Mark + 1, Nlink: -1, Attr: api.Attr{Has: api.HasOpaque, Opaque: api.Mark, Shown: -1}}, false)
}

// P22.1: a node without HasOpaque, whatever Opaque is.
func TestNotOdd(t *testing.T) {
	for _, kind := range append(sample.Strange(), api.Free, api.Dir, api.File, api.Link, api.White) {
		for _, has := range []int{0, api.HasRedirect, api.HasOrigin, api.HasShown, api.HasMeta, 30, 32, -2} {
			for _, mark := range append(sample.Far(), 0, 1, api.Mark, api.Mark-1, api.Mark+1, -1) {
				mustOdd(t, "without HasOpaque", api.Node{Kind: kind, Attr: api.Attr{Has: has, Opaque: mark}}, false)
			}
		}
	}
}

// P22.1: each kind over each: a Dir just of a Dir, a File or Link just of one of these, all others of none.
func TestStale(t *testing.T) {
	s := two()
	fits := map[[2]int]bool{{api.Dir, api.Dir}: true, {api.File, api.File}: true, {api.File, api.Link}: true, {api.Link, api.File}: true, {api.Link, api.Link}: true}
	for told, l := range origins() {
		for _, o := range l {
			for _, has := range []int{api.HasOrigin, 31, 36, -1} {
				for _, kind := range append(sample.Strange(), api.Free, api.Dir, api.File, api.Link, api.White) {
					mustStale(t, "an origin", s, api.Node{Kind: kind, Attr: api.Attr{Has: has, Origin: o}}, !fits[[2]int{kind, told}])
				}
			}
			for _, has := range []int{0, api.HasOpaque, api.HasRedirect, api.HasShown, api.HasMeta, 27, 32, -5} {
				for _, kind := range append(sample.Strange(), api.Free, api.Dir, api.File, api.Link, api.White) {
					mustStale(t, "without HasOrigin", s, api.Node{Kind: kind, Attr: api.Attr{Has: has, Origin: o}}, false)
				}
			}
		}
	}
}

// P22.1: HasMeta, of a File whose origin is a File, and of all others.
func TestLacks(t *testing.T) {
	s := two()
	for told, l := range origins() {
		for _, o := range l {
			for _, kind := range append(sample.Strange(), api.Free, api.Dir, api.File, api.Link, api.White) {
				for _, has := range []int{api.HasMeta | api.HasOrigin, 31, 52, -1} {
					mustLack(t, "with both", s, api.Node{Kind: kind, Attr: api.Attr{Has: has, Origin: o}}, kind != api.File || told != api.File)
				}
				for _, has := range []int{api.HasMeta, 27, 48, -5} {
					mustLack(t, "without HasOrigin", s, api.Node{Kind: kind, Attr: api.Attr{Has: has, Origin: o}}, true)
				}
				for _, has := range []int{0, api.HasOpaque, api.HasRedirect, api.HasOrigin, api.HasShown, 15, 32, -17} {
					mustLack(t, "without HasMeta", s, api.Node{Kind: kind, Attr: api.Attr{Has: has, Origin: o}}, false)
				}
			}
		}
	}
	mustLack(t, "the chapter's example", s, api.Node{Kind: api.File, Attr: api.Attr{Has: api.HasMeta}}, true)
}

// P22.1: an origin that is a copy whose bytes are elsewhere itself is a File still, and the node's own bytes are not asked.
func TestLacksNothingMore(t *testing.T) {
	s := two()
	s.Lowers[0].Nodes[lowFile-1].Attr = api.Attr{Has: api.HasMeta}
	n := api.Node{Kind: api.File, Data: []byte{1, 2}, Nlink: -1, Attr: from(api.HasMeta|api.HasOrigin, 1, lowFile)}
	mustLack(t, "a copy of a copy", s, n, false)
	mustStale(t, "a copy of a copy", s, n, false)
	s.Lowers[0].Nodes[lowFile-1].Data = []byte{3}
	mustLack(t, "with bytes", s, n, false)
}

// P22.1: of stacks without the layer, without layers, without anything.
func TestWrongStacks(t *testing.T) {
	for _, s := range []api.Stack{{}, stack(above()), stack(above(), api.Branch{}), stack(above(), api.Branch{}, below()), stack(above(), api.Branch{Nodes: below().Nodes[:1]})} {
		for _, kind := range []int{api.Dir, api.File, api.Link} {
			for _, ino := range []int{lowDir, lowFile, lowLink} {
				n := api.Node{Kind: kind, Attr: from(api.HasOrigin|api.HasMeta, 1, ino)}
				mustStale(t, "no origin", s, n, true)
				mustLack(t, "no origin", s, n, true)
				n.Attr = from(0, 1, ino)
				mustStale(t, "no attributes", s, n, false)
				mustLack(t, "no attributes", s, n, false)
			}
		}
	}
	many := stack(above(), api.Branch{}, api.Branch{}, api.Branch{}, api.Branch{}, below())
	many.Geo = api.Geo{Lowers: 1}
	n := api.Node{Kind: api.File, Attr: from(api.HasOrigin|api.HasMeta, 5, lowFile)}
	mustStale(t, "more layers than the layout has", many, n, false)
	mustLack(t, "more layers than the layout has", many, n, false)
}

// P22.3: a node without attributes is none of these, whatever else it is.
func TestWithoutAttributes(t *testing.T) {
	s := two(named("f", file), named("l", link), named("w", white), named("d", dir), named("x", free))
	for _, kind := range append(sample.Strange(), api.Free, api.Dir, api.File, api.Link, api.White) {
		for _, a := range []api.Attr{{}, {Opaque: 1}, {Opaque: api.Mark, Redirect: "//", Origin: api.Origin{Layer: 9, Ino: 9, Gen: 9}, Shown: -1}} {
			n := api.Node{Kind: kind, Impure: 3, Nlink: 9, Gen: 9, Data: []byte{1}, Entries: []api.Entry{named("x", root)}, Attr: a}
			mustOdd(t, "without attributes", n, false)
			mustStale(t, "without attributes", s, n, false)
			mustLack(t, "without attributes", s, n, false)
			s.Upper.Nodes[file-1] = n
			mark(s, root, a)
			mustFind(t, "without attributes", s)
		}
	}
}

// P22.2: one node, of one clause, of two, and of all three.
func TestFindings(t *testing.T) {
	s := two(named("f", file), named("d", dir), named("l", link), named("w", white), named("x", free))
	mustFind(t, "without attributes", s)
	mark(s, file, from(api.HasMeta|api.HasOrigin, 1, lowFile))
	mark(s, link, from(api.HasOrigin, 1, lowLink))
	mark(s, dir, api.Attr{Has: api.HasOpaque | api.HasOrigin, Opaque: api.Mark, Origin: api.Origin{Layer: 1, Ino: lowDir, Gen: gen}})
	mustFind(t, "right ones", s)
	mark(s, file, api.Attr{Has: api.HasMeta})
	mustFind(t, "a File with HasMeta alone", s, api.ClauseMeta, file)
	mark(s, file, from(api.HasMeta|api.HasOrigin, 1, lowLink))
	mustFind(t, "a File of a Link", s, api.ClauseMeta, file)
	mark(s, file, from(api.HasMeta|api.HasOrigin, 1, lowDir))
	mustFind(t, "a File of a Dir", s, api.ClauseOrigin, file, api.ClauseMeta, file)
	mark(s, file, from(31, 1, lowDir))
	mustFind(t, "all three of a File", s, api.ClauseOpaque, file, api.ClauseOrigin, file, api.ClauseMeta, file)
	mark(s, file, api.Attr{})
	mark(s, dir, from(31, 1, lowFile))
	mustFind(t, "all three of a Dir", s, api.ClauseOpaque, dir, api.ClauseOrigin, dir, api.ClauseMeta, dir)
	mark(s, dir, api.Attr{Has: api.HasOpaque, Opaque: api.Mark - 1})
	mustFind(t, "a marker that is none", s, api.ClauseOpaque, dir)
	mark(s, dir, api.Attr{})
	for _, ino := range []int{white, free} {
		mark(s, ino, from(api.HasOrigin, 1, lowFile))
		mustFind(t, "a White, or a free one", s, api.ClauseOrigin, ino)
		mark(s, ino, from(31, 1, lowFile))
		mustFind(t, "all three", s, api.ClauseOpaque, ino, api.ClauseOrigin, ino, api.ClauseMeta, ino)
		mark(s, ino, api.Attr{})
	}
	mark(s, root, from(31, 2, lowDir))
	mustFind(t, "all three of the root", s, api.ClauseOpaque, root, api.ClauseOrigin, root, api.ClauseMeta, root)
	mark(s, root, from(api.HasOrigin, 2, lowFile))
	mustFind(t, "a root of a Dir", s)
}

// P22.2: the findings are in the order of clauses, and of inodes within them, whatever the order of names.
func TestFindingsOrder(t *testing.T) {
	s := two(named("z", sub), named("a", dir), named("y", file), named("b", link), named("x", white))
	fill(s, sub, named("a", api.Work), named("f", free))
	for _, ino := range []int{root, api.Work, file, link, white, free, dir, sub} {
		mark(s, ino, api.Attr{Has: 31})
	}
	var want []int
	for _, clause := range []int{api.ClauseOpaque, api.ClauseOrigin, api.ClauseMeta} {
		for _, ino := range []int{root, api.Work, file, link, white, free, dir, sub} {
			want = append(want, clause, ino)
		}
	}
	mustFind(t, "all of all", s, want...)
	for _, ino := range []int{root, api.Work, white, free, dir, sub} {
		mark(s, ino, api.Attr{})
	}
	mark(s, file, api.Attr{Has: api.HasMeta})
	mark(s, link, api.Attr{Has: api.HasOrigin})
	mark(s, sub, api.Attr{Has: api.HasOpaque})
	mustFind(t, "the last inode first", s, api.ClauseOpaque, sub, api.ClauseOrigin, link, api.ClauseMeta, file)
}

// P22.2: nodes that are not in the tree are not told; one of several names is told once.
func TestFindingsElsewhere(t *testing.T) {
	s := two(named("l", link))
	fill(s, api.Work, named("f", file), named("x", free))
	fill(s, api.Index, named("w", white))
	fill(s, link, named("d", dir))
	fill(s, last, named("d", sub))
	for ino := range s.Upper.Nodes {
		if ino != root-1 && ino != link-1 {
			s.Upper.Nodes[ino].Attr = api.Attr{Has: 31}
		}
	}
	mustFind(t, "elsewhere", s)
	fill(s, root, named("f", file), named("g", file), named("f", file))
	mustFind(t, "several names", s, api.ClauseOpaque, file, api.ClauseOrigin, file, api.ClauseMeta, file)
	fill(s, root, named("d", sub))
	mark(s, sub, api.Attr{})
	fill(s, sub, named("up", root), named("self", sub), named("f", file))
	mustFind(t, "deep, and in rings", s, api.ClauseOpaque, file, api.ClauseOrigin, file, api.ClauseMeta, file)
	for _, kind := range append(sample.Strange(), api.Free, api.File, api.Link, api.White) {
		s.Upper.Nodes[sub-1].Kind = kind
		mustFind(t, "in what is no Dir", s)
	}
	for _, kind := range append(sample.Strange(), api.Free, api.File, api.Link, api.White) {
		s := two(named("f", file))
		mark(s, root, api.Attr{Has: 31})
		mark(s, file, api.Attr{Has: 31})
		s.Upper.Nodes[root-1].Kind = kind
		mustFind(t, "no root", s)
	}
	s = two()
	for _, ino := range append(sample.Far(), 0, -1, last+1, none) {
		s.Upper.Nodes[root-1].Entries = append(s.Upper.Nodes[root-1].Entries, named("d", ino))
	}
	mustFind(t, "inodes that are not there", s)
	mustFind(t, "nothing", api.Stack{})
	mustFind(t, "no upper nodes", stack(api.Branch{}, below()))
}

// P22.2: of a stack without the layers that origins name, and with another layout than it has.
func TestFindingsWrong(t *testing.T) {
	s := stack(above(named("f", file), named("d", dir)))
	mark(s, file, from(api.HasOrigin|api.HasMeta, 1, lowFile))
	mark(s, dir, api.Attr{Has: api.HasOpaque, Opaque: api.Mark})
	mustFind(t, "no lower layers", s, api.ClauseOrigin, file, api.ClauseMeta, file)
	s = stack(s.Upper, api.Branch{}, api.Branch{}, below())
	mark(s, dir, from(api.HasOrigin, 3, lowFile))
	for _, g := range []api.Geo{{}, {Lowers: -1}, {Lowers: 1, Inodes: 1}, {Lowers: math.MaxInt, Inodes: math.MaxInt}} {
		s.Geo = g
		mustFind(t, "another layout", s, api.ClauseOrigin, file, api.ClauseOrigin, dir, api.ClauseMeta, file)
		mark(s, file, from(api.HasOrigin|api.HasMeta, 3, lowFile))
		mustFind(t, "another layout", s, api.ClauseOrigin, dir)
		mark(s, file, from(api.HasOrigin|api.HasMeta, 1, lowFile))
	}
}

func someAttr(r *rand.Rand) api.Attr {
	if r.Intn(3) == 0 {
		return api.Attr{Opaque: r.Intn(200)}
	}
	return api.Attr{Has: r.Intn(64) - 16, Opaque: api.Mark - r.Intn(3)/2, Origin: api.Origin{Layer: r.Intn(4), Ino: r.Intn(9), Gen: r.Intn(2)}}
}

func someBranch(r *rand.Rand) api.Branch {
	l := make([]api.Node, r.Intn(10))
	for i := range l {
		l[i] = api.Node{Kind: []int{0, 1, 1, 1, 2, 2, 2, 3, 4, 5}[r.Intn(10)], Gen: r.Intn(2), Attr: someAttr(r)}
		for slot := range r.Intn(5) {
			l[i].Entries = append(l[i].Entries, api.Entry{Slot: slot, Ino: r.Intn(len(l) + 2), Name: string(rune('a' + r.Intn(4)))})
		}
	}
	if len(l) > 0 && r.Intn(8) != 0 {
		l[0].Kind = api.Dir
	}
	return api.Branch{Nodes: l}
}

func some(r *rand.Rand) api.Stack {
	s := api.Stack{Upper: someBranch(r)}
	for range r.Intn(4) {
		s.Lowers = append(s.Lowers, someBranch(r))
	}
	return s
}

// told is the kind of the node that a handle is of, by a second reading of the chapters, as all that follows here.
func told(s api.Stack, o api.Origin) int {
	for i, b := range s.Lowers {
		for k, n := range b.Nodes {
			if o == (api.Origin{Layer: i + 1, Ino: k + 1, Gen: n.Gen}) && n.Kind >= 1 && n.Kind <= 3 {
				return n.Kind
			}
		}
	}
	return 0
}

// violated is the clauses that a node violates.
func violated(s api.Stack, n api.Node) []int {
	var l []int
	kind := told(s, n.Attr.Origin)
	opaque, copied, meta := n.Attr.Has&1 != 0, n.Attr.Has&4 != 0, n.Attr.Has&16 != 0
	if opaque && !(n.Kind == 1 && n.Attr.Opaque == 121) {
		l = append(l, 8)
	}
	if copied && !(n.Kind == 1 && kind == 1 || (n.Kind == 2 || n.Kind == 3) && kind >= 2) {
		l = append(l, 13)
	}
	if meta && !(n.Kind == 2 && copied && kind == 2) {
		l = append(l, 14)
	}
	return l
}

// P22.1, P22.2: many stacks, held against the second reading.
func TestMany(t *testing.T) {
	r := rand.New(rand.NewSource(1))
	met := map[int]int{}
	for range 20000 {
		s := some(r)
		reach := walk.Reach(s.Upper, root)
		var want []int
		for _, clause := range []int{8, 13, 14} {
			for i, n := range s.Upper.Nodes {
				is := slices.Contains(violated(s, n), clause)
				switch clause {
				case 8:
					mustOdd(t, "any", n, is)
				case 13:
					mustStale(t, "any", s, n, is)
				case 14:
					mustLack(t, "any", s, n, is)
				}
				if is && reach[i] {
					want = append(want, clause, i+1)
					met[clause]++
				} else if n.Attr.Has != 0 && reach[i] {
					met[0]++
				}
			}
		}
		mustFind(t, "any", s, want...)
		if t.Failed() {
			t.Fatal(s)
		}
	}
	for _, clause := range []int{0, 8, 13, 14} {
		if met[clause] < 5000 {
			t.Fatal(met)
		}
	}
}

// shared is a stack with findings of each clause.
func shared() api.Stack {
	s := two(named("f", file), named("d", dir))
	mark(s, file, from(31, 1, lowDir))
	mark(s, dir, from(31, 1, lowDir))
	s.Lowers[0].Nodes[lowDir-1].Entries = []api.Entry{named("x", lowFile)}
	return s
}

// What is handed in stays as it is, and answers share no memory with it, nor with one another.
func TestAnswersShareNothing(t *testing.T) {
	s := shared()
	found := origin.Findings(s)
	want := slices.Clone(found)
	if len(found) != 5 {
		t.Fatal(found)
	}
	again := origin.Findings(s)
	clear(found[:cap(found)])
	for _, n := range s.Upper.Nodes {
		origin.Odd(n)
		origin.Stale(s, n)
		origin.Lacks(s, n)
	}
	if !reflect.DeepEqual(s, shared()) {
		t.Error("what was handed in is changed")
	}
	for _, b := range append(s.Lowers, s.Upper) {
		clear(b.Nodes)
	}
	if !slices.Equal(again, want) {
		t.Errorf("%v, not %v", again, want)
	}
	if got := origin.Findings(shared()); !slices.Equal(got, want) {
		t.Errorf("%v, not %v: an answer is kept", got, want)
	}
}
