package links_test

import (
	"math"
	"math/rand"
	"reflect"
	"slices"
	"strconv"
	"testing"

	"craquelure/api"
	"craquelure/handle"
	"craquelure/links"
	"craquelure/sample"
	"craquelure/shown"
)

const root = api.Root

// Inodes of lower layers, and the Gen of all that is live in them.
const (
	lowDir, lowFile, lowLink, lowSub, lowWhite, lowLast = 2, 3, 4, 5, 6, 6
	gen                                                 = 7
)

// Inodes of upper layers: others than those of lower ones, so that none is taken for one of these.
const (
	file, link, white, free = 11, 12, 13, 14
	dir, sub, away, last    = 15, 16, 17, 18
)

func named(name string, ino int) api.Entry {
	return api.Entry{Ino: ino, Name: name}
}

func layer(many int, kinds map[int]int, entries []api.Entry) api.Branch {
	b := api.Branch{Nodes: make([]api.Node, many)}
	for ino, kind := range kinds {
		b.Nodes[ino-1] = api.Node{Kind: kind, Nlink: 1, Gen: gen}
	}
	fill(b, root, entries...)
	return b
}

func above(entries ...api.Entry) api.Branch {
	return layer(last, map[int]int{root: api.Dir, api.Work: api.Dir, api.Index: api.Dir, file: api.File, link: api.Link, white: api.White, dir: api.Dir, sub: api.Dir, away: api.File, last: api.Link}, entries)
}

func below(entries ...api.Entry) api.Branch {
	return layer(lowLast, map[int]int{root: api.Dir, lowDir: api.Dir, lowFile: api.File, lowLink: api.Link, lowSub: api.Dir, lowWhite: api.White}, entries)
}

// two is a stack of two lower layers, with a File and a Link in the tree, and in the index, that are copies of the first one's File and of the second one's Link; neither of these is shown.
func two() api.Stack {
	s := api.Stack{Upper: above(named("f", file), named("l", link), named("w", white), named("d", dir), named("n", free)), Lowers: []api.Branch{below(), below()}}
	s.Geo = api.Geo{Lowers: 2, Inodes: last, Blocks: 9, Log: 5}
	copied(s, file, of(1, lowFile))
	copied(s, link, of(2, lowLink))
	indexed(s, file, link)
	return s
}

// fill gives a node these entries.
func fill(b api.Branch, ino int, entries ...api.Entry) {
	b.Nodes[ino-1].Entries = sample.Slotted(entries)
}

// of is the handle of what is live at that place.
func of(layer, ino int) api.Origin {
	return api.Origin{Layer: layer, Ino: ino, Gen: gen}
}

// copied gives an upper node the origin o, and nothing else.
func copied(s api.Stack, ino int, o api.Origin) {
	s.Upper.Nodes[ino-1].Attr = api.Attr{Has: api.HasOrigin, Origin: o}
}

// indexed lets the index have just these upper nodes, by the names of their origins.
func indexed(s api.Stack, inos ...int) {
	var l []api.Entry
	for _, ino := range inos {
		name, _ := handle.Name(s.Upper.Nodes[ino-1].Attr.Origin)
		l = append(l, named(name, ino))
	}
	fill(s.Upper, api.Index, l...)
}

// say lets an upper node say how many names of its origin are shown.
func say(s api.Stack, ino, names int) {
	a := &s.Upper.Nodes[ino-1].Attr
	a.Has |= api.HasShown
	a.Shown = names
}

// hush lets an upper node say nothing of it.
func hush(s api.Stack, ino int) {
	a := &s.Upper.Nodes[ino-1].Attr
	a.Has &^= api.HasShown
	a.Shown = 0
}

func mustWant(t *testing.T, why string, s api.Stack, ino, want int) {
	t.Helper()
	if got, ok := links.Want(s, ino); got != want || !ok {
		t.Errorf("%s: Want(%d): %d, %v, not %d", why, ino, got, ok, want)
	}
}

func mustNotWant(t *testing.T, why string, s api.Stack, ino int) {
	t.Helper()
	if got, ok := links.Want(s, ino); got != 0 || ok {
		t.Errorf("%s: Want(%d): %d, %v", why, ino, got, ok)
	}
}

// mustFind wants findings of these inodes, in turn.
func mustFind(t *testing.T, why string, s api.Stack, inos ...int) {
	t.Helper()
	var want []api.Finding
	for _, ino := range inos {
		want = append(want, api.Finding{Clause: api.ClauseShown, Layer: 0, Ino: ino, Slot: -1})
	}
	if got := links.Findings(s); !slices.Equal(got, want) {
		t.Errorf("%s: Findings: %v, not %v", why, got, want)
	}
}

// P26.1: a File and a Link whose origin is shown never, once, and by several names: in one directory, in others, and over other lower layers.
func TestWant(t *testing.T) {
	s := two()
	mustWant(t, "never", s, file, 0)
	mustWant(t, "never", s, link, 0)
	fill(s.Lowers[0], root, named("a", lowFile))
	mustWant(t, "a File, once", s, file, 1)
	mustWant(t, "a Link, never", s, link, 0)
	fill(s.Lowers[1], root, named("b", lowLink), named("d", lowDir))
	mustWant(t, "a Link, once", s, link, 1)
	fill(s.Lowers[0], root, named("a", lowFile), named("b", lowFile), named("d", lowDir), named("z", lowFile))
	mustWant(t, "a File, in one directory", s, file, 3)
	mustWant(t, "a Link, hidden", s, link, 0)
	fill(s.Lowers[0], lowDir, named("a", lowFile), named("s", lowSub))
	fill(s.Lowers[0], lowSub, named("c", lowFile))
	fill(s.Lowers[1], lowDir, named("m", lowLink), named("n", lowLink), named("a", lowLink))
	mustWant(t, "a File, in several", s, file, 5)
	mustWant(t, "a Link, beneath another layer", s, link, 2)
	fill(s.Upper, dir, named("a", white), named("m", away))
	mustWant(t, "a File, one name of which is whited out", s, file, 4)
	mustWant(t, "a Link, one name of which is covered", s, link, 1)
	s.Upper.Nodes[dir-1].Attr = api.Attr{Has: api.HasOpaque, Opaque: api.Mark}
	mustWant(t, "a File, names of which lie beneath an opaque directory", s, file, 3)
	mustWant(t, "a Link, all of which do", s, link, 0)
	s.Upper.Nodes[dir-1].Attr = api.Attr{Has: api.HasRedirect, Redirect: "/d/s"}
	mustWant(t, "a File, names of which lie beneath a redirect", s, file, 4)
	s.Upper.Nodes[root-1].Attr = api.Attr{Has: api.HasOpaque, Opaque: api.Mark}
	s.Upper.Nodes[dir-1].Attr = api.Attr{}
	mustWant(t, "a File beneath an opaque root", s, file, 0)
}

// P26.1: the names that a copy itself has do not count, nor do those of others of the same inode, or of another layer.
func TestWantOfPlace(t *testing.T) {
	s := two()
	fill(s.Upper, root, named("f", file), named("g", file), named("h", file), named("l", link))
	fill(s.Lowers[0], root, named("f", lowFile), named("i", lowLink), named("j", lowFile))
	fill(s.Lowers[1], root, named("x", lowFile), named("y", lowFile), named("z", lowLink))
	mustWant(t, "a File of the first layer", s, file, 1)
	mustWant(t, "a Link of the second one", s, link, 1)
	copied(s, file, of(2, lowFile))
	indexed(s, file, link)
	mustWant(t, "a File of the second layer", s, file, 2)
	copied(s, file, of(1, lowLink))
	copied(s, link, of(1, lowFile))
	indexed(s, file, link)
	mustWant(t, "a File of a Link", s, file, 1)
	mustWant(t, "a Link of a File", s, link, 1)
	copied(s, file, of(2, lowFile))
	copied(s, link, of(2, lowFile))
	indexed(s, link, file)
	mustWant(t, "two of one", s, file, 2)
	mustWant(t, "two of one", s, link, 2)
	fill(s.Upper, root, named("s", sub))
	fill(s.Upper, sub, named("f", file))
	mustWant(t, "deeper", s, file, 2)
	s.Upper.Nodes[file-1].Attr.Has = -1
	mustWant(t, "with all other attributes", s, file, 2)
}

// P26.1: a File and a Link that are not in the index, by no entry, or by ones that are Bad.
func TestWantNotIndexed(t *testing.T) {
	s := two()
	for _, l := range s.Lowers {
		fill(l, root, named("a", lowFile), named("b", lowLink), named("d", lowDir))
	}
	fill(s.Upper, api.Index)
	mustNotWant(t, "a File, an empty index", s, file)
	mustNotWant(t, "a Link, an empty index", s, link)
	indexed(s, link)
	mustNotWant(t, "a File, an index of another one", s, file)
	mustWant(t, "the other one", s, link, 0)
	for _, name := range []string{"", "x", "f", "1000300000070", "100030000008", "100040000007", "100020000007", "200030000007"} {
		fill(s.Upper, api.Index, named(name, file))
		mustNotWant(t, "an entry that is Bad", s, file)
	}
	fill(s.Upper, api.Index, named("x", file), named("100030000007", file))
	mustWant(t, "an entry that is Bad, and one that is not", s, file, 1)
	s.Upper.Nodes[file-1].Attr.Has = 27
	mustNotWant(t, "without HasOrigin", s, file)
	for _, o := range []api.Origin{of(1, lowLink), of(2, lowFile), of(2, lowLink)} {
		copied(s, file, o)
		mustNotWant(t, "another origin than the index says", s, file)
	}
	for _, o := range []api.Origin{{}, of(0, file), of(1, lowDir), of(1, root), of(1, lowWhite), of(1, lowLast+1), of(3, lowFile), of(-1, lowFile), {Layer: 1, Ino: lowFile, Gen: gen + 1}} {
		copied(s, file, o)
		indexed(s, file)
		mustNotWant(t, "an origin that is not there, or is a Dir or White", s, file)
	}
	for _, kind := range append(sample.Strange(), api.Free, api.File, api.Link, api.White) {
		s := two()
		s.Upper.Nodes[api.Index-1].Kind = kind
		mustNotWant(t, "an Index that is no Dir", s, file)
	}
}

// P26.1: one that is indexed, and not in the tree, though the index, or a directory that is not come to, names it.
func TestWantOutside(t *testing.T) {
	s := two()
	fill(s.Lowers[0], root, named("a", lowFile))
	fill(s.Upper, root, named("l", link))
	mustNotWant(t, "no name but in the index", s, file)
	for _, in := range []int{api.Work, sub, white, free} {
		fill(s.Upper, in, named("f", file))
		mustNotWant(t, "names elsewhere", s, file)
	}
	fill(s.Upper, root, named("l", link), named("s", sub))
	mustWant(t, "in the tree again", s, file, 1)
	for _, kind := range append(sample.Strange(), api.Free, api.File, api.Link, api.White) {
		s.Upper.Nodes[root-1].Kind = kind
		mustNotWant(t, "a root that is no Dir", s, file)
		mustNotWant(t, "a root that is no Dir", s, link)
	}
}

// P26.1: a Dir, a White, a Free node, and one of a kind that there is not, though they are copies, and in the tree and the index.
func TestWantOtherKinds(t *testing.T) {
	s := two()
	fill(s.Lowers[0], root, named("a", lowFile))
	fill(s.Upper, api.Index, named("100030000007", file), named("100030000007", white), named("100030000007", dir), named("100030000007", free), named("100030000007", root))
	for _, ino := range []int{root, api.Index, api.Work, white, dir, free} {
		copied(s, ino, of(1, lowFile))
		mustNotWant(t, "neither File nor Link", s, ino)
	}
	for _, kind := range append(sample.Strange(), api.Free, api.Dir, api.White) {
		s.Upper.Nodes[file-1].Kind = kind
		mustNotWant(t, "neither File nor Link", s, file)
	}
	for _, kind := range []int{api.File, api.Link} {
		s.Upper.Nodes[file-1].Kind = kind
		mustWant(t, "a File or Link", s, file, 1)
	}
}

// P26.1: an Ino that is not there, though the index, and the root, name it.
func TestWantOfNoInode(t *testing.T) {
	for _, ino := range append(sample.Far(), -1, 0, last+1) {
		s := two()
		mustNotWant(t, "no such inode", s, ino)
		fill(s.Upper, root, named("f", ino))
		fill(s.Upper, api.Index, named("100030000007", ino))
		mustNotWant(t, "no such inode, that is named", s, ino)
		mustNotWant(t, "no layers", api.Stack{}, ino)
	}
	for ino := range last + 1 {
		mustNotWant(t, "no layers", api.Stack{}, ino)
	}
}

// wide is a stack over a lower layer in which so many names are the File's.
func wide(names int) api.Stack {
	const each = 200
	low := below()
	for names > 0 {
		d := api.Node{Kind: api.Dir, Gen: gen}
		for k := range min(names, each) {
			d.Entries = append(d.Entries, api.Entry{Slot: k, Ino: lowFile, Name: strconv.Itoa(k)})
		}
		names -= len(d.Entries)
		low.Nodes = append(low.Nodes, d)
		at := len(low.Nodes)
		low.Nodes[root-1].Entries = append(low.Nodes[root-1].Entries, api.Entry{Slot: at, Ino: at, Name: "d" + strconv.Itoa(at)})
	}
	s := two()
	s.Lowers = []api.Branch{low, below()}
	return s
}

// P26.1: the bound.
func TestWantMany(t *testing.T) {
	for names, want := range map[int]int{1000: 1000, 65534: 65534, 65535: 65535, 65536: 65535, 66001: 65535} {
		s := wide(names)
		if got := shown.Count(s, api.Place{Layer: 1, Ino: lowFile}); got != names {
			t.Fatal(got, names)
		}
		mustWant(t, "many names", s, file, want)
		say(s, file, names)
		say(s, link, 0)
		if names == want {
			mustFind(t, "many names", s)
		} else {
			mustFind(t, "too many names", s, file)
		}
	}
}

// P26.1: a lower layer in which a directory is named twice: nothing is told to be shown.
func TestWantLowerTwice(t *testing.T) {
	s := two()
	fill(s.Lowers[0], root, named("a", lowFile), named("p", lowDir))
	mustWant(t, "once", s, file, 1)
	fill(s.Lowers[0], root, named("a", lowFile), named("p", lowDir), named("q", lowDir))
	mustWant(t, "twice", s, file, 0)
	fill(s.Lowers[0], root, named("a", lowFile))
	fill(s.Lowers[1], root, named("self", root))
	mustWant(t, "itself, in another layer", s, file, 0)
	say(s, file, 0)
	say(s, link, 0)
	mustFind(t, "as Want tells", s)
	fill(s.Lowers[1], root)
	mustFind(t, "none any more", s, file)
}

// P26.1: HasShown of a node in the tree where Want tells false, whatever kind it is, and whatever it says.
func TestFindingsWhereNoneShouldBe(t *testing.T) {
	for _, kind := range append(sample.Strange(), api.Free, api.Dir, api.File, api.Link, api.White) {
		for _, n := range append(sample.Far(), -1, 0, 1) {
			s := two()
			say(s, file, 0)
			say(s, link, 0)
			s.Upper.Nodes[free-1].Kind = kind
			mustFind(t, "none", s)
			say(s, free, n)
			mustFind(t, "one", s, free)
			s.Upper.Nodes[free-1].Attr = api.Attr{Has: 23, Shown: n}
			mustFind(t, "all else", s)
		}
	}
	s := two()
	fill(s.Upper, api.Index)
	mustFind(t, "not indexed", s)
	say(s, file, 0)
	mustFind(t, "the chapter's example", s, file)
	say(s, root, 0)
	say(s, white, 0)
	say(s, dir, 0)
	mustFind(t, "a root, a File, a White, a Dir", s, root, file, white, dir)
	indexed(s, file)
	mustFind(t, "all but what is indexed", s, root, white, dir)
	fill(s.Upper, api.Index, named("100030000007", white), named("100030000007", file))
	mustFind(t, "a White that is indexed", s, root, white, dir)
}

// P26.1: no HasShown where Want tells true, and a Shown that is Want, and one that is not.
func TestFindingsWhereOneShouldBe(t *testing.T) {
	for want := range 3 {
		s := two()
		fill(s.Lowers[0], root, []api.Entry{named("a", lowFile), named("b", lowFile)}[:want]...)
		fill(s.Lowers[1], root, []api.Entry{named("x", lowLink), named("y", lowLink)}[:want]...)
		mustFind(t, "both say nothing", s, file, link)
		say(s, link, want)
		mustFind(t, "one says nothing", s, file)
		for _, n := range append(sample.Far(), -1, 0, 1, 2, 3, want-256, want+256, want+65536, want+1<<32) {
			hush(s, file)
			s.Upper.Nodes[file-1].Attr.Shown = n
			mustFind(t, "a number alone", s, file)
			say(s, file, n)
			if n == want {
				mustFind(t, "as Want tells", s)
			} else {
				mustFind(t, "another number", s, file)
			}
		}
		for _, has := range []int{12, 31, 44, -1} {
			a := &s.Upper.Nodes[file-1].Attr
			a.Has, a.Shown = has, want
			mustFind(t, "with other attributes", s)
			a.Has, a.Shown = has&^api.HasShown, want
			mustFind(t, "with other attributes, and without", s, file)
		}
	}
}

// P26.1: nodes that are not in the tree are not asked.
func TestFindingsOutside(t *testing.T) {
	s := two()
	for ino := root; ino <= last; ino++ {
		say(s, ino, 3)
	}
	mustFind(t, "some outside", s, root, file, link, white, free, dir)
	fill(s.Upper, root, named("l", link))
	fill(s.Upper, api.Work, named("f", file), named("w", white))
	fill(s.Upper, sub, named("d", dir), named("a", away))
	fill(s.Upper, white, named("x", last))
	mustFind(t, "some named elsewhere", s, root, link)
	fill(s.Upper, root, named("z", sub), named("l", link), named("w", api.Work), named("i", api.Index), named("n", 0), named("m", last+1))
	mustFind(t, "some deeper, by Ino", s, root, api.Work, api.Index, file, link, white, dir, sub, away)
	for _, kind := range append(sample.Strange(), api.Free, api.File, api.Link, api.White) {
		s.Upper.Nodes[root-1].Kind = kind
		mustFind(t, "no root", s)
	}
	mustFind(t, "no layers", api.Stack{})
}

// P26.1: one that has several names is told once, in the order of Ino.
func TestFindingsOrder(t *testing.T) {
	s := two()
	fill(s.Upper, root, named("a", last), named("b", link), named("c", dir), named("d", file), named("e", link), named("f", away))
	fill(s.Upper, dir, named("a", file), named("b", white))
	for _, ino := range []int{last, white, away} {
		say(s, ino, 0)
	}
	mustFind(t, "out of order", s, file, link, white, away, last)
}

// P26.2: whoever is not in the index has no HasShown, or a finding; whoever is says what Want tells, or has one.
func TestFindingsAndWant(t *testing.T) {
	s := two()
	fill(s.Upper, dir, named("a", away), named("s", sub), named("z", last))
	fill(s.Lowers[0], root, named("a", lowFile), named("b", lowFile))
	for _, ino := range []int{file, link} {
		n, _ := links.Want(s, ino)
		say(s, ino, n)
	}
	mustFind(t, "all as Want tells", s)
	for _, ino := range []int{root, white, free, dir, sub, away, last} {
		n, _ := links.Want(s, ino)
		say(s, ino, n)
		mustFind(t, "not in the index", s, ino)
		hush(s, ino)
	}
	fill(s.Upper, api.Index)
	mustFind(t, "not in the index any more", s, file, link)
}

// P26.1: stacks without layers, with few nodes, with fewer lower layers, or with more than the layout says.
func TestWrongStacks(t *testing.T) {
	mustFind(t, "nothing", api.Stack{})
	for many := range file {
		s := two()
		for ino := root; ino <= last; ino++ {
			say(s, ino, 0)
		}
		s.Upper.Nodes = s.Upper.Nodes[:many]
		mustNotWant(t, "few nodes", s, file)
		mustFind(t, "few nodes", s, []int{root}[:min(many, 1)]...)
	}
	for _, lowers := range [][]api.Branch{nil, {}, {{}}, {{}, below(named("b", lowLink))}, {{Nodes: below().Nodes[:lowFile-1]}}} {
		s := two()
		s.Lowers = lowers
		mustNotWant(t, "no such lower node", s, file)
		say(s, file, 0)
		if len(lowers) == 2 {
			mustWant(t, "a lower node that is there", s, link, 1)
			mustFind(t, "one lower node", s, file, link)
		} else {
			mustFind(t, "no such lower node", s, file)
		}
	}
	s := two()
	s.Lowers = []api.Branch{{}, {}, {}, {}, below(named("a", lowFile))}
	s.Lowers[0], s.Lowers[1], s.Lowers[2], s.Lowers[3] = below(), below(), below(), below()
	copied(s, file, of(5, lowFile))
	indexed(s, file)
	for _, n := range append(sample.Far(), -1, 0, 1) {
		s.Geo = api.Geo{Lowers: n, Inodes: n, Blocks: n, Log: n}
		mustWant(t, "more layers than the layout has", s, file, 1)
		mustFind(t, "more layers than the layout has", s, file)
	}
}

// P26.1: upper directories of two names, and in circles.
func TestUpperTwice(t *testing.T) {
	s := two()
	fill(s.Lowers[0], root, named("d", lowDir), named("a", lowFile))
	fill(s.Lowers[0], lowDir, named("x", lowFile))
	fill(s.Upper, root, named("d", dir), named("e", dir), named("self", root))
	fill(s.Upper, dir, named("f", file), named("up", root), named("self", dir))
	mustWant(t, "a directory of two names is shown by the first one", s, file, 2)
	say(s, file, 2)
	mustFind(t, "a directory of two names is shown by the first one", s)
	s.Upper.Nodes[dir-1].Attr = api.Attr{Has: api.HasRedirect, Redirect: "/"}
	mustWant(t, "with a redirect to the root", s, file, 3)
}

// some is a stack of entries and attributes at random, most of which nearly fit.
func some(r *rand.Rand) api.Stack {
	s := two()
	for _, b := range s.Lowers {
		for _, way := range [][2]int{{root, lowDir}, {lowDir, lowSub}, {lowSub, lowLast + 1}} {
			var l []api.Entry
			for _, x := range []string{"a", "b", "c", "d", "f"} {
				if r.Intn(2) == 0 {
					l = append(l, named(x, []int{lowFile, lowLink, lowFile, lowLink, lowWhite, way[1]}[r.Intn(6)]))
				}
			}
			fill(b, way[0], l...)
		}
	}
	for ino := root; ino <= last; ino++ {
		n := &s.Upper.Nodes[ino-1]
		for range r.Intn(4) {
			n.Entries = append(n.Entries, api.Entry{Slot: len(n.Entries), Ino: r.Intn(last+3) - 1, Name: []string{"a", "b", "c", "d", "e"}[r.Intn(5)]})
		}
		n.Attr = api.Attr{Has: []int{4, 12, 12, 8, 0, 31}[r.Intn(6)], Redirect: "/d", Origin: of(1+r.Intn(2), lowFile+r.Intn(2)), Shown: r.Intn(3)}
		if r.Intn(12) == 0 {
			n.Kind = r.Intn(7) - 1
		}
	}
	indexed(s, file, link, file, link, white, away, last)
	l := s.Upper.Nodes[api.Index-1].Entries
	s.Upper.Nodes[api.Index-1].Entries = append(l[r.Intn(4):], named("x", file))
	return s
}

// reading is the second reading of Want: the handle of each lower node is written down, and looked for in the index; what is shown is counted anew.
func reading(s api.Stack, in []bool, all []api.Shown, ino int) (int, bool) {
	n := s.Upper.Nodes[ino-1]
	if n.Kind != 2 && n.Kind != 3 || !in[ino] || n.Attr.Has&4 == 0 || s.Upper.Nodes[2].Kind != 1 {
		return 0, false
	}
	count, is := 0, false
	for l, b := range s.Lowers {
		for k, from := range b.Nodes {
			o := api.Origin{Layer: l + 1, Ino: k + 1, Gen: from.Gen}
			name, _ := handle.Name(o)
			listed := slices.ContainsFunc(s.Upper.Nodes[2].Entries, func(e api.Entry) bool { return e.Ino == ino && e.Name == name })
			if o == n.Attr.Origin && listed && (from.Kind == 2 || from.Kind == 3) {
				is = true
				for _, x := range all {
					if x.Place == (api.Place{Layer: l + 1, Ino: k + 1}) {
						count++
					}
				}
			}
		}
	}
	return count, is
}

// P26.1, P26.2: many stacks, held against the second reading.
func TestMany(t *testing.T) {
	r := rand.New(rand.NewSource(1))
	met := map[string]int{}
	for range 4000 {
		s := some(r)
		in := sample.InTree(s.Upper)
		all := shown.All(s)
		var found []int
		for i, n := range s.Upper.Nodes {
			ino := i + 1
			want, should := reading(s, in, all, ino)
			says := n.Attr.Has&8 != 0
			if should {
				mustWant(t, "any", s, ino, want)
				met["want"]++
			} else {
				mustNotWant(t, "any", s, ino)
			}
			if want > 1 {
				met["several"]++
			}
			if in[ino] && (says != should || says && n.Attr.Shown != want) {
				found = append(found, ino)
			}
			if in[ino] && should && says && n.Attr.Shown == want {
				met["right"]++
			}
		}
		mustFind(t, "any", s, found...)
		if t.Failed() {
			t.Fatal(s)
		}
	}
	for _, x := range []string{"want", "several", "right"} {
		if met[x] < 300 {
			t.Fatal(met)
		}
	}
}

// shared is a stack with findings.
func shared() api.Stack {
	s := two()
	fill(s.Lowers[0], root, named("a", lowFile))
	s.Lowers[0].Nodes[lowFile-1].Data = []byte{1, 2}
	say(s, link, math.MaxInt)
	say(s, white, 1)
	return s
}

// What is handed in stays as it is, and answers share no memory with it, nor with one another.
func TestAnswersShareNothing(t *testing.T) {
	s := shared()
	found := links.Findings(s)
	want := slices.Clone(found)
	if len(found) != 3 {
		t.Fatal(found)
	}
	again := links.Findings(s)
	clear(found[:cap(found)])
	for ino := range last + 2 {
		links.Want(s, ino)
	}
	if !reflect.DeepEqual(s, shared()) {
		t.Error("what was handed in is changed")
	}
	for _, b := range append(s.Lowers, s.Upper) {
		clear(b.Nodes)
	}
	if !slices.Equal(again, want) {
		t.Errorf("%v, not %v", again, want)
	}
	if got := links.Findings(shared()); !slices.Equal(got, want) {
		t.Errorf("%v, not %v: an answer is kept", got, want)
	}
}
