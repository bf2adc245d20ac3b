package index_test

import (
	"math"
	"math/rand"
	"reflect"
	"slices"
	"strings"
	"testing"

	"craquelure/api"
	"craquelure/handle"
	"craquelure/index"
	"craquelure/sample"
)

const root = api.Root

// Inodes of lower layers, and the Gen of all that is live in them.
const (
	lowDir, lowFile, lowLink, lowWhite, lowFree, lowStrange = 2, 3, 4, 5, 6, 7
	gen                                                     = 7
)

// Inodes of upper layers: others than those of lower ones, so that none is taken for one of these.
const (
	file, link, white, free = 11, 12, 13, 14
	dir, sub, away, last    = 15, 16, 17, 18
)

// Names of handles in two: a File's, a Link's, and a Dir's.
const (
	ofFile = "100030000007"
	ofLink = "200040000007"
	ofDir  = "100020000007"
)

func named(name string, ino int) api.Entry {
	return api.Entry{Ino: ino, Name: name}
}

func above(entries ...api.Entry) api.Branch {
	l := make([]api.Node, last)
	for ino, kind := range map[int]int{root: api.Dir, api.Work: api.Dir, api.Index: api.Dir, file: api.File, link: api.Link, white: api.White, dir: api.Dir, sub: api.Dir, away: api.File, last: api.Link} {
		l[ino-1] = api.Node{Kind: kind, Nlink: 1}
	}
	l[root-1].Entries = sample.Slotted(entries)
	return api.Branch{Nodes: l}
}

func below() api.Branch {
	l := make([]api.Node, lowStrange)
	for ino, kind := range map[int]int{root: api.Dir, lowDir: api.Dir, lowFile: api.File, lowLink: api.Link, lowWhite: api.White, lowFree: api.Free, lowStrange: 5} {
		l[ino-1] = api.Node{Kind: kind, Nlink: 1, Gen: gen}
	}
	return api.Branch{Nodes: l}
}

func stack(up api.Branch, lowers ...api.Branch) api.Stack {
	return api.Stack{Geo: api.Geo{Lowers: len(lowers), Inodes: last, Blocks: 9, Log: 5}, Upper: up, Lowers: lowers}
}

// two is a stack of two lower layers, with a File and a Link in the tree that are copies of the first one's File and of the second one's Link.
func two() api.Stack {
	s := stack(above(named("f", file), named("l", link), named("w", white), named("d", dir), named("x", free)), below(), below())
	mark(s, file, of(1, lowFile))
	mark(s, link, of(2, lowLink))
	return s
}

// fill gives an upper node these entries.
func fill(s api.Stack, ino int, entries ...api.Entry) {
	s.Upper.Nodes[ino-1].Entries = sample.Slotted(entries)
}

// mark gives an upper node the origin o.
func mark(s api.Stack, ino int, o api.Origin) {
	s.Upper.Nodes[ino-1].Attr = api.Attr{Has: api.HasOrigin, Origin: o}
}

// of is the handle of what is live at that place.
func of(layer, ino int) api.Origin {
	return api.Origin{Layer: layer, Ino: ino, Gen: gen}
}

func mustBad(t *testing.T, why string, s api.Stack, e api.Entry, want bool) {
	t.Helper()
	if got := index.Bad(s, e); got != want {
		t.Errorf("%s: Bad(%v): %v", why, e, got)
	}
}

func mustIndexed(t *testing.T, why string, s api.Stack, ino int, want bool) {
	t.Helper()
	if got := index.Indexed(s, ino); got != want {
		t.Errorf("%s: Indexed(%d): %v", why, ino, got)
	}
}

// mustFind wants findings of these clauses and slots, in turn.
func mustFind(t *testing.T, why string, s api.Stack, l ...int) {
	t.Helper()
	var want []api.Finding
	for i := 0; i < len(l); i += 2 {
		ino := api.Index
		if l[i] == api.ClauseWork {
			ino = api.Work
		}
		want = append(want, api.Finding{Clause: l[i], Layer: 0, Ino: ino, Slot: l[i+1]})
	}
	if got := index.Findings(s); !slices.Equal(got, want) {
		t.Errorf("%s: Findings: %v, not %v", why, got, want)
	}
}

// P23.1: entries that may stand in the index; their Slot is not asked.
func TestNotBad(t *testing.T) {
	s := two()
	for _, slot := range append(sample.Far(), -1, 0, 15, 16) {
		for name, ino := range map[string]int{ofFile: file, ofLink: link} {
			mustBad(t, "a copy in the tree", s, api.Entry{Slot: slot, Ino: ino, Name: name}, false)
			mustBad(t, "a White", s, api.Entry{Slot: slot, Ino: white, Name: name}, false)
		}
	}
	mark(s, file, of(2, lowLink))
	mustBad(t, "a File of a Link", s, named(ofLink, file), false)
	mark(s, link, of(1, lowFile))
	mustBad(t, "a Link of a File", s, named(ofFile, link), false)
	s.Upper.Nodes[file-1].Attr = api.Attr{Has: -1, Opaque: 1, Redirect: "//", Origin: of(1, lowFile), Shown: 9}
	mustBad(t, "with all other attributes", s, named(ofFile, file), false)
}

// P23.1: a name that handle.Parse does not take, whatever is named.
func TestBadName(t *testing.T) {
	s := two()
	for _, name := range []string{"", "x", "10003000000", "1000300000070", " 100030000007", "100030000007 ", "100030000007/", "10003000000G", "000030000007", "g00030000007", "1000A0000007", "+00030000007", "1-0030000007", "100030000_07", "1000300\x0000007", "1000é000007"} {
		for ino := -1; ino <= last+1; ino++ {
			mustBad(t, "a name that is no handle's", s, named(name, ino), true)
		}
	}
	mark(s, file, api.Origin{})
	mustBad(t, "a name that is no handle's, of an origin without numbers", s, named("x", file), true)
	mustBad(t, "a name of no layer", s, named("000000000000", file), true)
	s.Lowers[0].Nodes[lowFile-1].Gen = 0xa
	mark(s, file, api.Origin{Layer: 1, Ino: lowFile, Gen: 0xa})
	mustBad(t, "a letter that is small", s, named("10003000000a", file), false)
	mustBad(t, "a letter that is great", s, named("10003000000A", file), true)
}

// P23.1: a handle that handle.Find tells nothing of, or a Dir, though what is named has that origin, or is a White.
func TestBadHandle(t *testing.T) {
	s := two()
	nothing := []api.Origin{
		{Layer: 1, Ino: root}, {Layer: 1, Ino: lowFile}, {Layer: 1, Ino: lowFile, Gen: gen + 1}, {Layer: 2, Ino: lowLink, Gen: gen - 1},
		of(1, lowWhite), of(1, lowFree), of(1, lowStrange), of(1, lowStrange+1), of(1, 0), of(3, lowFile), of(15, lowFile), of(1, api.MaxCount), {Layer: 1, Ino: lowFile, Gen: api.MaxGen},
		{Layer: 3}, {Layer: 1},
	}
	dirs := []api.Origin{of(1, root), of(1, lowDir), of(2, lowDir)}
	for _, o := range append(nothing, dirs...) {
		name, ok := handle.Name(o)
		if !ok {
			t.Fatal(o)
		}
		mark(s, file, o)
		mark(s, link, o)
		mark(s, dir, o)
		for _, ino := range []int{root, file, link, white, free, dir, away} {
			mustBad(t, "a handle of nothing, or of a Dir", s, named(name, ino), true)
		}
	}
}

// P23.1: an Ino that is a Dir, Free, of a kind that there is not, below 1, or behind the last node.
func TestBadInode(t *testing.T) {
	s := two()
	for _, ino := range append(sample.Far(), -1, 0, last+1, root, api.Work, api.Index, free, dir, sub) {
		mustBad(t, "neither File, Link nor White", s, named(ofFile, ino), true)
	}
	for _, kind := range append(sample.Strange(), api.Free, api.Dir) {
		s.Upper.Nodes[file-1].Kind = kind
		mustBad(t, "with the handle's Origin", s, named(ofFile, file), true)
	}
	for _, kind := range []int{api.File, api.Link, api.White} {
		s.Upper.Nodes[file-1].Kind = kind
		mustBad(t, "with the handle's Origin", s, named(ofFile, file), false)
	}
}

// P23.1: a File or Link without HasOrigin, or with another Origin than the handle; of a White none is asked.
func TestBadOrigin(t *testing.T) {
	s := two()
	for _, ino := range []int{file, link, white} {
		n := &s.Upper.Nodes[ino-1]
		for _, has := range []int{0, api.HasOpaque, api.HasRedirect, api.HasShown, api.HasMeta, 27, 32, -5} {
			n.Attr = api.Attr{Has: has, Origin: of(1, lowFile)}
			mustBad(t, "without HasOrigin", s, named(ofFile, ino), ino != white)
		}
		for _, has := range []int{api.HasOrigin, 31, 36, -1} {
			n.Attr = api.Attr{Has: has, Origin: of(1, lowFile)}
			mustBad(t, "with HasOrigin", s, named(ofFile, ino), false)
			mustBad(t, "of another one that there is", s, named(ofLink, ino), ino != white)
			for _, o := range []api.Origin{{}, of(2, lowFile), of(0, lowFile), of(1, lowLink), of(1, lowFile+1<<16), {Layer: 1, Ino: lowFile, Gen: gen + 1}, {Layer: 1, Ino: lowFile}, {Layer: 1, Ino: lowFile, Gen: -gen}, {Layer: 1, Ino: lowFile, Gen: gen + 1<<28}, {Layer: 17, Ino: lowFile, Gen: gen}} {
				n.Attr.Origin = o
				mustBad(t, "another Layer, Ino or Gen", s, named(ofFile, ino), ino != white)
			}
		}
	}
}

// P23.1: a File or Link that is not in the tree, though Index, Work, or a directory that is not come to, names it; of a White that is not asked.
func TestBadOutside(t *testing.T) {
	s := two()
	fill(s, root)
	for _, ino := range []int{api.Work, api.Index, sub, free} {
		fill(s, ino, named(ofFile, file), named(ofLink, link), named(ofFile, white))
		mustBad(t, "a File elsewhere", s, named(ofFile, file), true)
		mustBad(t, "a Link elsewhere", s, named(ofLink, link), true)
		mustBad(t, "a White elsewhere", s, named(ofLink, white), false)
	}
	fill(s, root, named("s", sub))
	mustBad(t, "a File deeper", s, named(ofFile, file), false)
	mustBad(t, "a Link deeper", s, named(ofLink, link), false)
	for _, kind := range append(sample.Strange(), api.Free, api.File, api.Link, api.White) {
		s.Upper.Nodes[root-1].Kind = kind
		mustBad(t, "a File without a root", s, named(ofFile, file), true)
		mustBad(t, "a White without a root", s, named(ofFile, white), false)
	}
	s = two()
	fill(s, root, named("i", api.Index))
	fill(s, api.Index, named(ofFile, file))
	mustBad(t, "a File in an Index that is in the tree", s, named(ofFile, file), false)
	mustFind(t, "a File in an Index that is in the tree", s)
	mustIndexed(t, "a File in an Index that is in the tree", s, file, true)
}

// P23.2: an inode that an entry names which is not Bad, that one names which is, and that none names.
func TestIndexed(t *testing.T) {
	s := two()
	for ino := -1; ino <= last+1; ino++ {
		mustIndexed(t, "an empty index", s, ino, false)
	}
	fill(s, api.Index, named(ofFile, file), named(ofFile, link), named("x", white), named(ofDir, away), named(ofFile, dir))
	for _, ino := range append(sample.Far(), -1, 0, 1, 2, 3, file, link, white, free, dir, away, last, last+1) {
		mustIndexed(t, "one that is not Bad", s, ino, ino == file)
	}
	fill(s, api.Index, named(ofLink, file), named(ofDir, white), named(ofFile, file), named(ofLink, white), named(ofLink, link), named("x", link))
	for _, ino := range append(sample.Far(), -1, 0, 1, 2, 3, file, link, white, free, dir, away, last, last+1) {
		mustIndexed(t, "one that is not Bad, behind or ahead of one that is", s, ino, ino == file || ino == link || ino == white)
	}
	for _, ino := range []int{root, api.Work, sub} {
		s = two()
		fill(s, ino, append(s.Upper.Nodes[ino-1].Entries, named(ofFile, file), named(ofFile, white))...)
		mustIndexed(t, "a File in another directory", s, file, false)
		mustIndexed(t, "a White in another directory", s, white, false)
	}
}

// P23.2: an Index that is no Dir, or is not there, has no entries.
func TestNoIndex(t *testing.T) {
	s := two()
	fill(s, api.Index, named(ofFile, file), named("x", white))
	fill(s, api.Work, named("y", white))
	mustFind(t, "a Dir", s, api.ClauseIndex, 3, api.ClauseWork, 2)
	for _, kind := range append(sample.Strange(), api.Free, api.File, api.Link, api.White) {
		s.Upper.Nodes[api.Index-1].Kind = kind
		mustIndexed(t, "an Index that is no Dir", s, file, false)
		mustFind(t, "an Index that is no Dir", s, api.ClauseWork, 2)
	}
	for _, kind := range append(sample.Strange(), api.Free, api.File, api.Link, api.White) {
		s.Upper.Nodes[api.Work-1].Kind = kind
		mustFind(t, "neither is a Dir", s)
		s.Upper.Nodes[api.Index-1].Kind = api.Dir
		mustFind(t, "a Work that is no Dir", s, api.ClauseIndex, 3)
		mustIndexed(t, "a Work that is no Dir", s, file, true)
		s.Upper.Nodes[api.Index-1].Kind = api.File
	}
	for many := range api.Index {
		s = two()
		fill(s, api.Work, named("y", 1))
		s.Upper.Nodes = s.Upper.Nodes[:many]
		for ino := -1; ino <= last; ino++ {
			mustIndexed(t, "an Index that is not there", s, ino, false)
		}
		if many < api.Work {
			mustFind(t, "neither is there", s)
		} else {
			mustFind(t, "just Work is there", s, api.ClauseWork, 2)
		}
	}
}

// P23.2: entries of Index that are Bad, all entries of Work, and of both; whatever Work's entries name.
func TestFindings(t *testing.T) {
	s := two()
	mustFind(t, "both are empty", s)
	fill(s, api.Index, named(ofFile, file), named(ofLink, link), named(ofLink, white))
	mustFind(t, "an index that is right", s)
	fill(s, api.Index, named("x", file), named(ofFile, file), named(ofDir, white), named(ofLink, file), named(ofFile, dir))
	mustFind(t, "an index that is not", s, api.ClauseIndex, 2, api.ClauseIndex, 4, api.ClauseIndex, 5, api.ClauseIndex, 6)
	fill(s, api.Work, named(ofFile, file), named("x", white), named("", 0), named("y", -1), named("z", api.Work))
	mustFind(t, "both, the index first", s, api.ClauseIndex, 2, api.ClauseIndex, 4, api.ClauseIndex, 5, api.ClauseIndex, 6, api.ClauseWork, 2, api.ClauseWork, 3, api.ClauseWork, 4, api.ClauseWork, 5, api.ClauseWork, 6)
	fill(s, api.Index)
	mustFind(t, "just Work", s, api.ClauseWork, 2, api.ClauseWork, 3, api.ClauseWork, 4, api.ClauseWork, 5, api.ClauseWork, 6)
	s = two()
	fill(s, root, append(s.Upper.Nodes[root-1].Entries, named("x", 99))...)
	fill(s, dir, named("x", 99), named(ofDir, file))
	mustFind(t, "entries elsewhere", s)
	fill(s, api.Index, named("x", white))
	mustFind(t, "the chapter's example", s, api.ClauseIndex, 2)
}

// P23.2: the findings are as the entries stand, not in the order of slots, names or inodes; two of one name, Ino or Slot are both told.
func TestFindingsOrder(t *testing.T) {
	s := two()
	s.Upper.Nodes[api.Index-1].Entries = []api.Entry{{Slot: 9, Ino: white, Name: "z"}, {Slot: 3, Ino: file, Name: ofFile}, {Slot: 4, Ino: white, Name: "a"}, {Slot: 15, Ino: file, Name: "z"}, {Slot: 0, Ino: dir, Name: "b"}, {Slot: 4, Ino: 0, Name: "z"}}
	s.Upper.Nodes[api.Work-1].Entries = []api.Entry{{Slot: 8, Ino: white, Name: "z"}, {Slot: 1, Ino: white, Name: "a"}, {Slot: 14, Ino: file, Name: "z"}, {Slot: 1, Ino: file, Name: "z"}, {Slot: math.MinInt, Ino: 1, Name: "c"}, {Slot: math.MaxInt, Ino: 1, Name: "c"}}
	mustFind(t, "out of order", s, api.ClauseIndex, 9, api.ClauseIndex, 4, api.ClauseIndex, 15, api.ClauseIndex, 0, api.ClauseIndex, 4,
		api.ClauseWork, 8, api.ClauseWork, 1, api.ClauseWork, 14, api.ClauseWork, 1, api.ClauseWork, math.MinInt, api.ClauseWork, math.MaxInt)
	s.Upper.Nodes[api.Index-1].Entries = []api.Entry{{Slot: 2, Ino: file, Name: ofFile}, {Slot: 7, Ino: file, Name: ofFile}, {Slot: 3, Ino: white, Name: ofFile}, {Slot: 1, Ino: link, Name: ofFile}, {Slot: 5, Ino: file, Name: ofLink}}
	s.Upper.Nodes[api.Work-1].Entries = nil
	mustFind(t, "several of one handle, and of one inode", s, api.ClauseIndex, 1, api.ClauseIndex, 5)
}

// P23.3: an entry that is not Bad names no Dir.
func TestNoDir(t *testing.T) {
	for _, name := range []string{ofFile, ofLink, ofDir, "x"} {
		for ino := range last + 2 {
			s := two()
			for i := range s.Upper.Nodes {
				mark(s, i+1, of(1, lowFile))
			}
			if !index.Bad(s, named(name, ino)) && (ino < 1 || ino > last || s.Upper.Nodes[ino-1].Kind == api.Dir) {
				t.Errorf("%q names %d", name, ino)
			}
		}
	}
}

// P23.1, P23.2: stacks without layers, with fewer, or with more than the layout says.
func TestWrongStacks(t *testing.T) {
	mustFind(t, "nothing", api.Stack{})
	mustIndexed(t, "nothing", api.Stack{}, file, false)
	mustBad(t, "nothing", api.Stack{}, named(ofFile, file), true)
	mustBad(t, "nothing", api.Stack{}, api.Entry{}, true)
	for _, lowers := range [][]api.Branch{nil, {}, {{}}, {{}, below()}, {{Nodes: below().Nodes[:lowFile-1]}}} {
		s := two()
		s.Lowers = lowers
		fill(s, api.Index, named(ofFile, file), named(ofFile, white))
		fill(s, api.Work, named(ofFile, file))
		mustBad(t, "no such lower node", s, named(ofFile, file), true)
		mustIndexed(t, "no such lower node", s, file, false)
		mustFind(t, "no such lower node", s, api.ClauseIndex, 2, api.ClauseIndex, 3, api.ClauseWork, 2)
	}
	many := two()
	many.Lowers = []api.Branch{{}, {}, {}, {}, below()}
	mark(many, file, of(5, lowFile))
	for _, g := range []api.Geo{{}, {Lowers: 1, Inodes: 4}, {Lowers: -1, Inodes: -1, Blocks: -1, Log: -1}, {Lowers: math.MaxInt, Inodes: math.MaxInt, Blocks: math.MinInt, Log: math.MinInt}} {
		many.Geo = g
		fill(many, api.Index, named("500030000007", file), named(ofFile, white))
		mustBad(t, "more layers than the layout has", many, named("500030000007", file), false)
		mustIndexed(t, "more layers than the layout has", many, file, true)
		mustFind(t, "more layers than the layout has", many, api.ClauseIndex, 3)
	}
}

// The layout is not asked: all that counts are the layers that are there.
func TestAsksNoLayout(t *testing.T) {
	want := index.Findings(shared())
	for _, n := range append(sample.Far(), -1, 0, 1) {
		s := shared()
		s.Geo = api.Geo{Lowers: n, Inodes: n, Blocks: n, Log: n}
		if got := index.Findings(s); !slices.Equal(got, want) {
			t.Errorf("%d: %v, not %v", n, got, want)
		}
		mustIndexed(t, "any layout", s, file, true)
	}
}

// some is a stack of entries and attributes at random, most of which nearly fit.
func some(r *rand.Rand) api.Stack {
	s := two()
	origins := []api.Origin{of(1, lowFile), of(2, lowLink), of(1, lowDir), of(1, lowWhite), of(2, lowFile), {Layer: 1, Ino: lowFile, Gen: gen + 1}}
	names := []string{"x", "100030000007 "}
	for _, o := range origins {
		name, _ := handle.Name(o)
		names = append(names, name, name)
	}
	some := func() (l []api.Entry) {
		for range r.Intn(6) {
			l = append(l, api.Entry{Slot: r.Intn(api.Slots), Ino: r.Intn(last+3) - 1, Name: names[r.Intn(len(names))]})
		}
		return l
	}
	for ino := root; ino <= last; ino++ {
		n := &s.Upper.Nodes[ino-1]
		n.Entries = append(n.Entries, some()...)
		n.Attr = api.Attr{Has: r.Intn(3) / 2 * 27, Origin: origins[r.Intn(len(origins))]}
		if r.Intn(4) > 0 {
			n.Attr.Has |= api.HasOrigin
		}
		if r.Intn(3) == 0 && ino > api.Index || r.Intn(20) == 0 {
			n.Kind = r.Intn(7) - 1
		}
	}
	l := s.Upper.Nodes[api.Index-1].Entries
	for i, e := range l {
		if e.Ino >= 1 && e.Ino <= last && r.Intn(2) == 0 {
			l[i].Name, _ = handle.Name(s.Upper.Nodes[e.Ino-1].Attr.Origin)
		}
	}
	return s
}

// bad is the second reading of Bad: the handle of each lower node that may be copied is written down, and looked for.
func bad(s api.Stack, in []bool, e api.Entry) bool {
	if e.Ino < 1 || e.Ino > len(s.Upper.Nodes) {
		return true
	}
	n := s.Upper.Nodes[e.Ino-1]
	for l, b := range s.Lowers {
		for k, from := range b.Nodes {
			o := api.Origin{Layer: l + 1, Ino: k + 1, Gen: from.Gen}
			name, _ := handle.Name(o)
			if name != e.Name || from.Kind != 2 && from.Kind != 3 {
				continue
			}
			return n.Kind != 4 && !((n.Kind == 2 || n.Kind == 3) && in[e.Ino] && n.Attr.Has&4 != 0 && n.Attr.Origin == o)
		}
	}
	return true
}

// P23.1 to P23.3: many stacks, held against the second reading.
func TestMany(t *testing.T) {
	r := rand.New(rand.NewSource(1))
	met := map[int]int{}
	for range 20000 {
		s := some(r)
		in := sample.InTree(s.Upper)
		var want []int
		indexed := map[int]bool{}
		for i, n := range s.Upper.Nodes {
			for _, e := range n.Entries {
				is := bad(s, in, e)
				mustBad(t, "any", s, e, is)
				if i+1 == api.Index && n.Kind == 1 && is {
					want = append(want, api.ClauseIndex, e.Slot)
					met[0]++
				}
				if i+1 == api.Index && n.Kind == 1 && !is {
					indexed[e.Ino] = true
					met[s.Upper.Nodes[e.Ino-1].Kind]++
				}
			}
		}
		if n := s.Upper.Nodes[api.Work-1]; n.Kind == 1 {
			for _, e := range n.Entries {
				want = append(want, api.ClauseWork, e.Slot)
				met[1]++
			}
		}
		mustFind(t, "any", s, want...)
		for ino := -1; ino <= last+1; ino++ {
			mustIndexed(t, "any", s, ino, indexed[ino])
		}
		if t.Failed() {
			t.Fatal(s)
		}
	}
	for what, times := range []int{10000, 10000, 500, 300, 1000} {
		if met[what] < times {
			t.Fatal(met)
		}
	}
}

// shared is a stack with findings of both clauses.
func shared() api.Stack {
	s := two()
	fill(s, api.Index, named(ofFile, file), named("x", white), named(ofDir, link))
	fill(s, api.Work, named("x", white), named(ofFile, file))
	s.Lowers[0].Nodes[lowFile-1].Data = []byte{1, 2}
	return s
}

// What is handed in stays as it is, and answers share no memory with it, nor with one another.
func TestAnswersShareNothing(t *testing.T) {
	s := shared()
	found := index.Findings(s)
	want := slices.Clone(found)
	if len(found) != 4 {
		t.Fatal(found)
	}
	again := index.Findings(s)
	clear(found[:cap(found)])
	for ino, n := range s.Upper.Nodes {
		index.Indexed(s, ino)
		for _, e := range n.Entries {
			index.Bad(s, e)
		}
	}
	if !reflect.DeepEqual(s, shared()) {
		t.Error("what was handed in is changed")
	}
	for _, b := range append(s.Lowers, s.Upper) {
		clear(b.Nodes)
	}
	if !slices.Equal(again, want) {
		t.Errorf("%v, not %v", again, want)
	}
	if got := index.Findings(shared()); !slices.Equal(got, want) {
		t.Errorf("%v, not %v: an answer is kept", got, want)
	}
}

// P23.1: a name of any length ends.
func TestLongNames(t *testing.T) {
	s := two()
	for _, n := range []int{13, 100, 1 << 16} {
		mustBad(t, "a long name", s, named(strings.Repeat("1", n), white), true)
		mustBad(t, "a handle's name, and more", s, named(ofFile+strings.Repeat("0", n), white), true)
	}
}
