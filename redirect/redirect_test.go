package redirect_test

import (
	"math"
	"math/rand"
	"reflect"
	"slices"
	"strings"
	"testing"

	"craquelure/api"
	"craquelure/path"
	"craquelure/redirect"
	"craquelure/sample"
	"craquelure/view"
	"craquelure/walk"
)

const root = api.Root

// Inodes of lower layers.
const (
	lowFile, lowLink, lowWhite = 2, 3, 4
	lowDir, lowSub, lowOpaque  = 5, 6, 7
	lowFree, lowLast           = 8, 9
)

// Inodes of upper layers: others than those of lower ones, so that none is taken for one of these.
const (
	file, link, white, free = 11, 12, 13, 14
	dir, sub, deep, last    = 15, 16, 17, 18
	none                    = 99
)

// kinds is all that are no Dir.
func kinds() []int {
	return append(sample.Far(), api.Free, api.File, api.Link, api.White, -1, 5)
}

func opaque() api.Attr {
	return api.Attr{Has: api.HasOpaque, Opaque: api.Mark}
}

func redirected(to string) api.Attr {
	return api.Attr{Has: api.HasRedirect, Redirect: to}
}

// hidden is a redirect of a directory that is opaque.
func hidden(to string) api.Attr {
	return api.Attr{Has: api.HasRedirect | api.HasOpaque, Opaque: api.Mark, Redirect: to}
}

func named(name string, ino int) api.Entry {
	return api.Entry{Ino: ino, Name: name}
}

// slotted is the entries, each with a slot of its own.
func slotted(entries []api.Entry) []api.Entry {
	l := slices.Clone(entries)
	for i := range l {
		l[i].Slot = i
	}
	return l
}

// layer is a layer with nodes of these kinds, and a root with these entries.
func layer(nodes int, kinds map[int]int, entries []api.Entry) api.Branch {
	l := make([]api.Node, nodes)
	for ino, kind := range kinds {
		l[ino-1] = api.Node{Kind: kind, Nlink: 1}
	}
	l[root-1] = api.Node{Kind: api.Dir, Nlink: 2, Entries: slotted(entries)}
	return api.Branch{Nodes: l}
}

func above(entries ...api.Entry) api.Branch {
	return layer(last, map[int]int{api.Work: api.Dir, api.Index: api.Dir, file: api.File, link: api.Link, white: api.White, dir: api.Dir, sub: api.Dir, deep: api.Dir, last: api.Dir}, entries)
}

func below(entries ...api.Entry) api.Branch {
	b := layer(lowLast, map[int]int{lowFile: api.File, lowLink: api.Link, lowWhite: api.White, lowDir: api.Dir, lowSub: api.Dir, lowOpaque: api.Dir, lowLast: api.Dir}, entries)
	b.Nodes[lowOpaque-1].Attr = opaque()
	return b
}

// fill gives a directory of a layer these entries.
func fill(b api.Branch, ino int, entries ...api.Entry) {
	b.Nodes[ino-1].Entries = slotted(entries)
}

// mark gives a node of a layer these attributes.
func mark(b api.Branch, ino int, a api.Attr) {
	b.Nodes[ino-1].Attr = a
}

func stack(up api.Branch, lowers ...api.Branch) api.Stack {
	return api.Stack{Geo: api.Geo{Lowers: len(lowers), Inodes: last, Blocks: 9, Log: 5}, Upper: up, Lowers: lowers}
}

// hills is a stack over two lower layers: "/d/e", "/d/s", "/q", "/m" and "/o" are directories there, "f" a File, "l" a Link, and "w" a White above a directory.
func hills(up ...api.Entry) api.Stack {
	top := below(named("d", lowDir), named("f", lowFile), named("l", lowLink), named("w", lowWhite), named("o", lowOpaque), named("n", lowFree), named("m", none))
	fill(top, lowDir, named("e", lowLast), named("g", lowFile))
	bottom := below(named("d", lowDir), named("w", lowSub), named("q", lowOpaque), named("m", lowLast), named("o", lowSub))
	fill(bottom, lowDir, named("e", lowLast), named("s", lowSub))
	return stack(above(up...), top, bottom)
}

func mustLoop(t *testing.T, why string, own []string, to string, want bool) {
	t.Helper()
	if got := redirect.Loops(own, to); got != want {
		t.Errorf("%s: Loops(%q, %q): %v", why, own, to, got)
	}
}

// mustClaim wants claims of these Layers and Inos, in turn.
func mustClaim(t *testing.T, why string, s api.Stack, l ...int) {
	t.Helper()
	var want []api.Place
	for i := 0; i < len(l); i += 2 {
		want = append(want, api.Place{Layer: l[i], Ino: l[i+1]})
	}
	if got := redirect.Claims(s); !slices.Equal(got, want) {
		t.Errorf("%s: Claims: %v, not %v", why, got, want)
	}
}

// mustFind wants findings of these inodes and clauses, in turn.
func mustFind(t *testing.T, why string, s api.Stack, l ...int) {
	t.Helper()
	var want []api.Finding
	for i := 0; i < len(l); i += 2 {
		want = append(want, api.Finding{Clause: l[i+1], Layer: 0, Ino: l[i], Slot: -1})
	}
	if got := redirect.Findings(s); !slices.Equal(got, want) {
		t.Errorf("%s: Findings: %v, not %v", why, got, want)
	}
}

// P21.1: absolute ones, that begin own, are own, are longer, or begin it but for their last names.
func TestLoopsAbsolute(t *testing.T) {
	own := []string{"a", "b", "c"}
	for _, to := range []string{"/", "/a", "/a/b", "/a/b/c"} {
		mustLoop(t, "it begins own, or is own", own, to, true)
	}
	for _, to := range []string{"/a/b/c/d", "/a/b/c/c", "/a/b/d", "/a/c", "/a/c/b", "/b", "/c", "/b/c", "/a/b/", "/A", "/d/b/c", "/a/b/cc", "/a/bb", "/aa", "/d", "/a-/b/c"} {
		mustLoop(t, "it begins own not", own, to, false)
	}
	mustLoop(t, "own is a longer name", []string{"aa"}, "/a", false)
	mustLoop(t, "one name", []string{"a"}, "/a", true)
	mustLoop(t, "one name", []string{"a"}, "/", true)
	mustLoop(t, "one name", []string{"a"}, "/b", false)
	mustLoop(t, "one name", []string{"a"}, "/a/a", false)
	mustLoop(t, "the same name again", []string{"a", "a"}, "/a", true)
	mustLoop(t, "the same name again", []string{"a", "a"}, "/a/a", true)
	mustLoop(t, "the same name again", []string{"a", "a"}, "/a/a/a", false)
}

// P21.1: ones that are a name, and own's last, or another of own's.
func TestLoopsRelative(t *testing.T) {
	own := []string{"a", "b", "c"}
	mustLoop(t, "own's last", own, "c", true)
	mustLoop(t, "own's last", []string{"c"}, "c", true)
	mustLoop(t, "own's last", []string{"c", "c"}, "c", true)
	for _, to := range []string{"a", "b", "d", "cc", "c-", "C", "a-name-of-12"} {
		mustLoop(t, "not own's last", own, to, false)
	}
	mustLoop(t, "of 12 bytes", []string{"a", "a-name-of-12"}, "a-name-of-12", true)
	mustLoop(t, "the first one alone", []string{"c", "d"}, "c", false)
}

// P21.1: of an own that is empty.
func TestLoopsOfNoOwn(t *testing.T) {
	for _, own := range [][]string{nil, {}} {
		mustLoop(t, "no own", own, "/", true)
		for _, to := range []string{"", "/a", "a", "//", ".", "/a/b", strings.Repeat("a", 25)} {
			mustLoop(t, "no own", own, to, false)
		}
	}
}

// P21.1: ones that path.Redirect does not take, though they are own, or its last, as they stand.
func TestLoopsNotTaken(t *testing.T) {
	for _, to := range []string{"", "/a/", "//", "//a", "/a//b", "/.", "/..", "/a/.", "/a/..", ".", "..", "A", "/A", "a/", "a/b", " ", "a ", "/a ", "\x00", "/\xff", "é", "a-name-of-13.", "/a-name-of-13.", strings.Repeat("/a", 13), strings.Repeat("a", 1000)} {
		mustLoop(t, "not taken", []string{to}, to, false)
		mustLoop(t, "not taken", []string{"a", to}, to, false)
		mustLoop(t, "not taken", strings.Split(to, "/"), to, false)
		mustLoop(t, "not taken", strings.Split(to, "/")[1:], to, false)
		mustLoop(t, "not taken", []string{"a", "b"}, to, false)
		mustLoop(t, "not taken", nil, to, false)
	}
	fits := []string{"a-name-of-1", "a-name-of-2"}
	mustLoop(t, "of 24 bytes", append(fits, "x"), path.Join(fits), true)
	long := []string{"a-name-of-1", "a-name-of-12"}
	mustLoop(t, "of 25 bytes", append(long, "x"), path.Join(long), false)
	mustLoop(t, "of 25 bytes", long, path.Join(long), false)
}

// P21.1: names of own are taken as they are, also such as no path has.
func TestLoopsStrangeOwn(t *testing.T) {
	mustLoop(t, "strange names", []string{"a/b"}, "/a/b", false)
	mustLoop(t, "strange names", []string{"/a"}, "/a", false)
	mustLoop(t, "strange names", []string{"", "a"}, "/a", false)
	mustLoop(t, "strange names", []string{"", "a"}, "a", true)
	mustLoop(t, "strange names", []string{"a", "..", "b"}, "/a", true)
	mustLoop(t, "strange names", []string{"a", "", "\xff"}, "/a", true)
	mustLoop(t, "strange names", []string{"a", "b", ""}, "/a/b", true)
	mustLoop(t, "strange names", []string{"a", "b", ""}, "b", false)
	mustLoop(t, "many names", slices.Repeat([]string{"a"}, 100000), "/a/a/a", true)
	mustLoop(t, "many names", slices.Repeat([]string{"a"}, 100000), "a", true)
}

// P21.1: many, held against the texts: own's begins with that of the redirect, or ends with it.
func TestLoopsMany(t *testing.T) {
	names := []string{"a", "b", "aa", "b-"}
	some := func(r *rand.Rand, most int) []string {
		var l []string
		for range r.Intn(most + 1) {
			l = append(l, names[r.Intn(len(names))])
		}
		return l
	}
	r := rand.New(rand.NewSource(1))
	loops := map[bool]int{}
	for range 20000 {
		own, l := some(r, 5), some(r, 5)
		text := path.Join(own) + "/"
		to, want := path.Join(l), len(l) == 0 || strings.HasPrefix(text, path.Join(l)+"/")
		if r.Intn(2) == 0 && len(l) == 1 {
			to, want = l[0], strings.HasSuffix(text, "/"+l[0]+"/")
		}
		mustLoop(t, "any", own, to, want)
		loops[want]++
	}
	if loops[true] < 3000 || loops[false] < 3000 {
		t.Fatal(loops)
	}
}

// P21.2: of directories with one, several, and none beneath, by names and by redirects, in the order of the tree.
func TestClaims(t *testing.T) {
	mustClaim(t, "the root alone", hills(), 1, root)
	mustClaim(t, "files", hills(named("f", file), named("d", white), named("q", link), named("x", free)), 1, root)
	s := hills(named("z", last), named("q", sub), named("d", dir))
	fill(s.Upper, dir, named("s", deep), named("e", api.Work))
	fill(s.Upper, deep, named("e", api.Index))
	mustClaim(t, "by names", s, 1, root, 0, 0, 2, lowOpaque, 1, lowDir, 2, lowSub, 1, lowLast, 0, 0)
	mark(s.Upper, last, redirected("m"))
	mark(s.Upper, sub, redirected("/d/s"))
	mark(s.Upper, api.Index, redirected("/"))
	mustClaim(t, "by redirects", s, 1, root, 2, lowLast, 2, lowSub, 1, lowDir, 2, lowSub, 1, lowLast, 1, root)
	mark(s.Upper, dir, opaque())
	mustClaim(t, "in an opaque one", s, 1, root, 2, lowLast, 2, lowSub, 0, 0, 0, 0, 0, 0, 1, root)
	mark(s.Upper, dir, redirected("//"))
	mustClaim(t, "in one with a redirect that is none", s, 1, root, 2, lowLast, 2, lowSub, 0, 0, 0, 0, 0, 0, 1, root)
	mark(s.Upper, root, opaque())
	mustClaim(t, "an opaque root", s, 0, 0, 0, 0, 2, lowSub, 0, 0, 0, 0, 0, 0, 1, root)
}

// P21.2: of one and the same Place, claimed by several.
func TestClaimsOfOne(t *testing.T) {
	s := hills(named("x", dir), named("d", sub), named("y", last))
	mark(s.Upper, dir, redirected("/d"))
	mark(s.Upper, last, redirected("d"))
	mustClaim(t, "three of one", s, 1, root, 1, lowDir, 1, lowDir, 1, lowDir)
}

// P21.2: without a root, lower layers, lower roots, or anything.
func TestClaimsOfNothing(t *testing.T) {
	mustClaim(t, "nothing", api.Stack{})
	mustClaim(t, "no upper nodes", stack(api.Branch{}, below()))
	mustClaim(t, "no lower layers", stack(above(named("d", dir))), 0, 0, 0, 0)
	mustClaim(t, "lower layers without nodes", stack(above(named("d", dir)), api.Branch{}, api.Branch{}), 0, 0, 0, 0)
	for _, kind := range kinds() {
		s := hills(named("d", dir))
		s.Upper.Nodes[root-1].Kind = kind
		mustClaim(t, "no upper root", s)
		s = hills(named("d", dir))
		s.Lowers[0].Nodes[root-1].Kind = kind
		mustClaim(t, "no lower root", s, 2, root, 2, lowDir)
		s = hills(named("d", dir), named("q", sub))
		s.Upper.Nodes[dir-1].Kind = kind
		mustClaim(t, "no Dir", s, 1, root, 2, lowOpaque)
	}
	s := hills()
	for _, ino := range append(sample.Far(), 0, -1, last+1, none) {
		s.Upper.Nodes[root-1].Entries = append(s.Upper.Nodes[root-1].Entries, named("d", ino))
	}
	mustClaim(t, "inodes that are not there", s, 1, root)
}

// P21.2: a directory of two names claims by the one that it is come to by first, and once.
func TestClaimsTwice(t *testing.T) {
	s := hills(named("q", dir), named("d", dir), named("self", root))
	fill(s.Upper, dir, named("self", dir), named("up", root))
	mustClaim(t, "two names", s, 1, root, 2, lowOpaque)
	s = hills(named("d", dir), named("q", dir))
	mustClaim(t, "two names", s, 1, root, 1, lowDir)
	s = hills(named("d", white), named("d", dir))
	mustClaim(t, "behind a White of its name", s, 1, root, 1, lowDir)
}

// P21.3: redirects that lead somewhere else, alone, are fine.
func TestFindingsNone(t *testing.T) {
	for _, to := range []string{"/d", "/d/e", "/d/s", "/q", "/o", "/m", "d", "q", "m", "o"} {
		s := hills(named("x", dir))
		mark(s.Upper, dir, redirected(to))
		mustFind(t, to, s)
		mark(s.Upper, dir, api.Attr{Has: 30, Redirect: to})
		mustFind(t, "among other attributes, "+to, s)
		mark(s.Upper, dir, hidden(to))
		mustFind(t, "opaque, "+to, s)
	}
	s := hills(named("y", sub))
	fill(s.Upper, sub, named("x", dir))
	mark(s.Upper, sub, redirected("/d"))
	for _, to := range []string{"/d/e", "/q", "e", "s", "/m"} {
		mark(s.Upper, dir, redirected(to))
		mustFind(t, "in a redirected one, "+to, s)
	}
	mustFind(t, "no entries", hills())
	mustFind(t, "no redirects", hills(named("d", dir), named("q", sub), named("d", deep), named("x", last)))
}

// P21.3: of a node that is in the tree, and no Dir.
func TestFindingsNoDir(t *testing.T) {
	s := hills(named("x", free), named("f", file), named("l", link), named("w", white))
	for _, to := range []string{"/d", "d", "/", "/f", "f", "", "//", "/x"} {
		for _, ino := range []int{file, link, white, free} {
			mark(s.Upper, ino, redirected(to))
		}
		mustFind(t, "no Dir, "+to, s, file, api.ClauseForm, link, api.ClauseForm, white, api.ClauseForm, free, api.ClauseForm)
		for _, ino := range []int{file, link, white, free} {
			mark(s.Upper, ino, hidden(to))
		}
		mustFind(t, "no Dir, with a mark, "+to, s, file, api.ClauseForm, link, api.ClauseForm, white, api.ClauseForm, free, api.ClauseForm)
	}
	for _, kind := range kinds() {
		s := hills(named("x", dir), named("z", dir))
		s.Upper.Nodes[dir-1].Kind = kind
		mark(s.Upper, dir, redirected("/d"))
		mustFind(t, "any kind", s, dir, api.ClauseForm)
		fill(s.Upper, dir, named("y", sub))
		mark(s.Upper, sub, redirected("//"))
		mustFind(t, "what stands in no Dir is not in the tree", s, dir, api.ClauseForm)
	}
}

// P21.3: the root with a redirect, whatever it is.
func TestFindingsRoot(t *testing.T) {
	for _, to := range []string{"/", "/d", "d", "/z", "z", "", "//", "."} {
		s := hills(named("f", file))
		mark(s.Upper, root, redirected(to))
		mustFind(t, "the root", s, root, api.ClauseForm)
		mark(s.Upper, root, hidden(to))
		mustFind(t, "an opaque root", s, root, api.ClauseForm)
		mustFind(t, "no lower layers", stack(s.Upper), root, api.ClauseForm)
		fill(s.Upper, root, named("self", root))
		mustFind(t, "a root that names itself", s, root, api.ClauseForm)
		for _, kind := range kinds() {
			s.Upper.Nodes[root-1].Kind = kind
			mustFind(t, "a root that is no Dir", s)
		}
	}
}

// P21.3: redirects that path.Redirect does not take; of a directory without HasRedirect they are not asked.
func TestFindingsNotTaken(t *testing.T) {
	for _, to := range []string{"", "x/", "d/e", "//d", "/d/", "/d//e", "/.", "/d/.", "/d/..", ".", "..", "D", "/D", "d ", " d", "/d\x00", "\xff", "a-name-of-13.", "/a-name-of-13.", strings.Repeat("/d", 13), strings.Repeat("d", 1000)} {
		s := hills(named("x", dir))
		mark(s.Upper, dir, redirected(to))
		mustFind(t, "not taken "+to, s, dir, api.ClauseForm)
		mark(s.Upper, dir, hidden(to))
		mustFind(t, "not taken, opaque "+to, s, dir, api.ClauseForm)
		s.Upper.Nodes[root-1].Entries[0].Name = to
		mustFind(t, "not taken, by its own name "+to, s, dir, api.ClauseForm)
		for _, has := range []int{0, 29, -3, 32} {
			mark(s.Upper, dir, api.Attr{Has: has, Redirect: to})
			mark(s.Upper, root, api.Attr{Has: has, Redirect: to})
			mustFind(t, "without HasRedirect", s)
		}
	}
}

// P21.3: a redirect that leads to its own path, to one ahead of it, or by its own name, also of an opaque directory.
func TestFindingsLoop(t *testing.T) {
	for _, attr := range []func(string) api.Attr{redirected, hidden} {
		s := hills(named("d", dir), named("q", last))
		for _, to := range []string{"/d", "d", "/"} {
			mark(s.Upper, dir, attr(to))
			mustFind(t, "of /d, "+to, s, dir, api.ClauseLoop)
		}
		s = hills(named("d", dir))
		fill(s.Upper, dir, named("e", sub))
		fill(s.Upper, sub, named("x", deep))
		for _, to := range []string{"/", "/d", "/d/e", "e"} {
			mark(s.Upper, sub, attr(to))
			mustFind(t, "of /d/e, "+to, s, sub, api.ClauseLoop)
		}
		mark(s.Upper, sub, api.Attr{})
		for _, to := range []string{"/", "/d", "/d/e", "/d/e/x", "x"} {
			mark(s.Upper, deep, attr(to))
			mustFind(t, "of /d/e/x, "+to, s, deep, api.ClauseLoop)
		}
		for _, to := range []string{"/d/s", "/q", "/m"} {
			mark(s.Upper, deep, attr(to))
			mustFind(t, "of /d/e/x, "+to, s)
		}
	}
	s := stack(above(named("x", dir)))
	mark(s.Upper, dir, redirected("/x"))
	mustFind(t, "with nothing beneath", s, dir, api.ClauseLoop)
	mark(s.Upper, dir, redirected("x"))
	mustFind(t, "with nothing beneath", s, dir, api.ClauseLoop)
}

// P21.3: the path is that of the names in the upper layer, not that of what redirects lead to.
func TestFindingsLoopPath(t *testing.T) {
	s := hills(named("x", sub))
	mark(s.Upper, sub, redirected("/d"))
	fill(s.Upper, sub, named("e", dir))
	mark(s.Upper, dir, redirected("/d/e"))
	mustFind(t, "its place beneath", s)
	mark(s.Upper, dir, redirected("/d/s"))
	mustFind(t, "another one beneath", s)
	mark(s.Upper, dir, redirected("/x/e"))
	mustFind(t, "its own path", s, dir, api.ClauseLoop)
	mark(s.Upper, dir, redirected("/x"))
	mustFind(t, "its own directory's path", s, dir, api.ClauseLoop)
}

// P21.3: one that leads nowhere, or to no directory, of a directory that is opaque, and of one that is not.
func TestFindingsGone(t *testing.T) {
	gone := []string{"/z", "z", "/f", "f", "/l", "l", "/w", "w", "/n", "n", "/d/z", "/z/d", "/d/g", "/f/x", "/w/e", "/d/e/e", "/x/d", "/x/x", "/q/d", "e", "s"}
	for _, to := range gone {
		s := hills(named("x", dir))
		mark(s.Upper, dir, redirected(to))
		mustFind(t, "gone "+to, s, dir, api.ClauseGone)
		mark(s.Upper, dir, hidden(to))
		mustFind(t, "gone, of an opaque one "+to, s)
		for _, a := range []api.Attr{{Has: 3, Opaque: 1}, {Has: 3}, {Has: 2, Opaque: api.Mark}, {Has: 3, Opaque: api.Mark + 1}, {Has: 30, Opaque: api.Mark}} {
			a.Redirect = to
			mark(s.Upper, dir, a)
			mustFind(t, "gone, with a mark that is none "+to, s, dir, api.ClauseGone)
		}
	}
	s := stack(above(named("x", dir)))
	mark(s.Upper, dir, redirected("/d"))
	mustFind(t, "no lower layers", s, dir, api.ClauseGone)
	mark(s.Upper, dir, redirected("d"))
	mustFind(t, "no lower layers", s, dir, api.ClauseGone)
	s = hills(named("x", dir))
	mark(s.Upper, root, opaque())
	mark(s.Upper, dir, redirected("d"))
	mustFind(t, "a name, in an opaque root", s, dir, api.ClauseGone)
	mark(s.Upper, dir, redirected("/d"))
	mustFind(t, "a path, in an opaque root", s)
}

// P21.3: a name is looked for where the directory stands, a path from the lower roots on.
func TestFindingsGoneElsewhere(t *testing.T) {
	s := hills(named("y", sub))
	fill(s.Upper, sub, named("x", dir))
	mark(s.Upper, dir, redirected("d"))
	mustFind(t, "in one with nothing beneath", s, dir, api.ClauseGone)
	mark(s.Upper, sub, redirected("/d"))
	mustFind(t, "in one that has another", s, dir, api.ClauseGone)
	mark(s.Upper, dir, redirected("e"))
	mustFind(t, "in one that has it", s)
	mark(s.Upper, sub, hidden("/d"))
	mustFind(t, "in one that is opaque", s, dir, api.ClauseGone)
	mark(s.Upper, sub, redirected("/z"))
	mustFind(t, "in one that is gone itself", s, dir, api.ClauseGone, sub, api.ClauseGone)
	mark(s.Upper, dir, redirected("/d/e"))
	mustFind(t, "a path, in one that is gone itself", s, sub, api.ClauseGone)
}

// P21.3: of two that claim one Place, both by redirects, the one ahead in the tree keeps it, whatever its inode.
func TestFindingsSameBoth(t *testing.T) {
	both := func(to, again string) api.Stack {
		s := hills(named("x", dir), named("y", sub))
		mark(s.Upper, dir, redirected(to))
		mark(s.Upper, sub, redirected(again))
		return s
	}
	mustFind(t, "two paths", both("/d", "/d"), sub, api.ClauseSame)
	mustFind(t, "two names", both("d", "d"), sub, api.ClauseSame)
	mustFind(t, "a path, and a name", both("/d", "d"), sub, api.ClauseSame)
	mustFind(t, "two others", both("/d", "/d/e"))
	mustFind(t, "two others", both("/d", "q"))
	mustFind(t, "two layers", both("/d/e", "/m"))
	mustFind(t, "one layer", both("/m", "m"), sub, api.ClauseSame)
	mustFind(t, "not the topmost alone", both("/d", "/d/s"))
	s := both("/d", "/d")
	slices.Reverse(s.Upper.Nodes[root-1].Entries)
	mustFind(t, "the later inode ahead", s, dir, api.ClauseSame)
	mark(s.Upper, dir, hidden("/d"))
	mustFind(t, "the first inode opaque", s)
	mark(s.Upper, dir, redirected("/d"))
	mark(s.Upper, sub, hidden("/d"))
	mustFind(t, "the one ahead opaque", s)
	s = hills(named("x", last), named("y", dir))
	fill(s.Upper, last, named("z", sub))
	mark(s.Upper, sub, redirected("/d"))
	mark(s.Upper, dir, redirected("/d"))
	mustFind(t, "the higher one is ahead", s, sub, api.ClauseSame)
}

// P21.3: the first Places alone are held against each other.
func TestFindingsSameFirst(t *testing.T) {
	s := hills(named("x", dir), named("y", sub))
	s.Lowers[0].Nodes[root-1].Entries = append(s.Lowers[0].Nodes[root-1].Entries, named("d2", lowDir))
	mark(s.Upper, dir, redirected("/d"))
	mark(s.Upper, sub, redirected("/d2"))
	mustFind(t, "one over two layers, one over one", s, sub, api.ClauseSame)
	s = hills(named("x", dir), named("y", sub))
	s.Lowers[1].Nodes[root-1].Entries = append(s.Lowers[1].Nodes[root-1].Entries, named("d2", lowDir))
	mark(s.Upper, dir, redirected("/d"))
	mark(s.Upper, sub, redirected("/d2"))
	mustFind(t, "the second layer alone", s)
}

// P21.3: a directory without a redirect keeps what it claims, wherever it stands.
func TestFindingsSameOne(t *testing.T) {
	for _, entries := range [][]api.Entry{{named("d", dir), named("x", sub)}, {named("x", sub), named("d", dir)}, {named("d", sub), named("x", dir)}, {named("x", dir), named("d", sub)}} {
		s := hills(entries...)
		for _, e := range entries {
			if e.Name == "x" {
				mark(s.Upper, e.Ino, redirected("/d"))
				mustFind(t, "one without a redirect", s, e.Ino, api.ClauseSame)
				mark(s.Upper, e.Ino, redirected("d"))
				mustFind(t, "one without a redirect", s, e.Ino, api.ClauseSame)
				mark(s.Upper, e.Ino, redirected("/q"))
				mustFind(t, "another one", s)
			}
		}
	}
	s := hills(named("x", sub), named("y", last), named("d", deep))
	mark(s.Upper, sub, redirected("/d/e"))
	mark(s.Upper, last, redirected("/d/e"))
	fill(s.Upper, deep, named("e", dir))
	mustFind(t, "one deep down, and two ahead of it", s, sub, api.ClauseSame, last, api.ClauseSame)
	mark(s.Upper, dir, opaque())
	mustFind(t, "one that is opaque claims nothing", s, last, api.ClauseSame)
	s = hills(named("x", sub), named("y", last))
	fill(s.Upper, last, named("e", dir))
	mark(s.Upper, sub, redirected("/d/e"))
	mark(s.Upper, last, redirected("/d"))
	mustFind(t, "one in a redirected one", s, sub, api.ClauseSame)
	mustFind(t, "the root", stack(above(named("x", sub)), below(named("x", root), named("d", lowDir))))
	s = stack(above(named("y", sub)), below(named("x", root), named("d", lowDir)))
	mark(s.Upper, sub, redirected("/x"))
	mustFind(t, "the root", s, sub, api.ClauseSame)
}

// P21.3: of three the first one keeps it, or none, if one of them has no redirect.
func TestFindingsSameThree(t *testing.T) {
	s := hills(named("x", dir), named("z", last), named("y", sub))
	for _, ino := range []int{dir, sub, last} {
		mark(s.Upper, ino, redirected("/d"))
	}
	mustFind(t, "three", s, sub, api.ClauseSame, last, api.ClauseSame)
	slices.Reverse(s.Upper.Nodes[root-1].Entries)
	mustFind(t, "three, from behind", s, dir, api.ClauseSame, last, api.ClauseSame)
	s.Upper.Nodes[root-1].Entries = append(s.Upper.Nodes[root-1].Entries, named("d", deep))
	mustFind(t, "three, and one without", s, dir, api.ClauseSame, sub, api.ClauseSame, last, api.ClauseSame)
	s = hills(named("x", dir), named("z", last), named("y", sub))
	mark(s.Upper, dir, redirected("/d"))
	mark(s.Upper, last, redirected("/q"))
	mark(s.Upper, sub, redirected("q"))
	mustFind(t, "two of one, one of another", s, sub, api.ClauseSame)
}

// P21.3: what is told by a clause ahead does not keep what it claims.
func TestFindingsSameOfTold(t *testing.T) {
	s := hills(named("d", dir), named("x", sub))
	mark(s.Upper, dir, redirected("/d"))
	mark(s.Upper, sub, redirected("/d"))
	mustFind(t, "of a loop", s, dir, api.ClauseLoop)
	mark(s.Upper, dir, redirected("d"))
	mustFind(t, "of a loop", s, dir, api.ClauseLoop)
	s = hills(named("d", dir), named("x", sub), named("y", last))
	mark(s.Upper, dir, redirected("/d"))
	mark(s.Upper, sub, redirected("/d"))
	mark(s.Upper, last, redirected("/d"))
	mustFind(t, "of a loop, and two more", s, dir, api.ClauseLoop, last, api.ClauseSame)
	s = stack(above(named("y", sub)), below(named("x", root)))
	mark(s.Upper, root, redirected("/d"))
	mark(s.Upper, sub, redirected("/x"))
	mustFind(t, "of the root, by its form", s, root, api.ClauseForm)
	s = hills(named("x", dir), named("y", sub), named("z", last))
	mark(s.Upper, dir, redirected("/z"))
	mark(s.Upper, sub, redirected("/z"))
	mark(s.Upper, last, hidden("/d"))
	mustFind(t, "of those that are gone", s, dir, api.ClauseGone, sub, api.ClauseGone)
}

// P21.3: who claims nothing is not the same as others that do so.
func TestFindingsSameNothing(t *testing.T) {
	s := hills(named("x", dir), named("y", sub), named("z", last), named("v", deep))
	mark(s.Upper, dir, hidden("/d"))
	mark(s.Upper, sub, hidden("/d"))
	mark(s.Upper, last, opaque())
	mustFind(t, "opaque ones", s)
	mark(s.Upper, sub, redirected("/z"))
	mustFind(t, "opaque ones, and one that is gone", s, sub, api.ClauseGone)
	mark(s.Upper, dir, redirected("/z"))
	mark(s.Upper, sub, hidden("/d"))
	mustFind(t, "opaque ones, and one that is gone", s, dir, api.ClauseGone)
	mustFind(t, "no lower layers", stack(s.Upper), dir, api.ClauseGone)
}

// P21.3: nodes that are not in the tree are not told, and claim nothing.
func TestFindingsElsewhere(t *testing.T) {
	s := hills(named("x", dir))
	mark(s.Upper, dir, redirected("/d"))
	fill(s.Upper, api.Work, named("d", sub), named("f", file))
	fill(s.Upper, api.Index, named("x", deep), named("l", link))
	fill(s.Upper, last, named("w", white))
	for _, ino := range []int{api.Work, api.Index, sub, deep, last, file, link, white, free} {
		for _, to := range []string{"//", "/d", "/x", "d", "/z", "/"} {
			mark(s.Upper, ino, redirected(to))
			mustFind(t, "elsewhere "+to, s)
		}
	}
	mustFind(t, "elsewhere, without a redirect", hills(named("x", dir)))
	s = hills()
	for _, ino := range append(sample.Far(), 0, -1, last+1, none) {
		s.Upper.Nodes[root-1].Entries = append(s.Upper.Nodes[root-1].Entries, named("d", ino))
	}
	mustFind(t, "inodes that are not there", s)
	mustFind(t, "nothing", api.Stack{})
	mustFind(t, "no upper nodes", stack(api.Branch{}, below()))
	for _, kind := range kinds() {
		s := hills(named("x", dir), named("f", file))
		mark(s.Upper, dir, redirected("//"))
		mark(s.Upper, file, redirected("//"))
		s.Upper.Nodes[root-1].Kind = kind
		mustFind(t, "no root", s)
	}
}

// P21.3: a directory of two names has the path of the one that it is come to by first, and is told once.
func TestFindingsTwice(t *testing.T) {
	s := hills(named("a", dir), named("d", dir))
	mark(s.Upper, dir, redirected("/d"))
	mustFind(t, "by its second path", s)
	mark(s.Upper, dir, redirected("/a"))
	mustFind(t, "by its first path", s, dir, api.ClauseLoop)
	s = hills(named("d", dir), named("a", dir))
	mark(s.Upper, dir, redirected("d"))
	mustFind(t, "by its first name", s, dir, api.ClauseLoop)
	mark(s.Upper, dir, redirected("a"))
	mustFind(t, "by its second name", s, dir, api.ClauseGone)
	s = hills(named("x", sub), named("y", dir))
	fill(s.Upper, sub, named("d", dir))
	mark(s.Upper, dir, redirected("d"))
	mustFind(t, "the higher path is first", s)
	s = hills(named("d", dir))
	fill(s.Upper, dir, named("self", dir), named("up", root))
	mark(s.Upper, dir, redirected("self"))
	mustFind(t, "a name of its own in itself", s, dir, api.ClauseGone)
	s = hills(named("f", file), named("g", file))
	mark(s.Upper, file, redirected("/d"))
	mustFind(t, "a File of two names", s, file, api.ClauseForm)
	s = hills(named("d", white), named("d", dir))
	mark(s.Upper, dir, redirected("/d"))
	mustFind(t, "behind a White of its name", s, dir, api.ClauseLoop)
}

// P21.3: by the inodes, whatever the clauses, and the order of the tree.
func TestFindingsOrder(t *testing.T) {
	s := hills(named("g", last), named("x", deep), named("y", sub), named("d", dir), named("v", file), named("z", api.Index))
	fill(s.Upper, sub, named("t", api.Work), named("u", link))
	mark(s.Upper, last, redirected("/m"))
	mark(s.Upper, deep, redirected("/m"))
	mark(s.Upper, sub, redirected("/z/z"))
	mark(s.Upper, dir, redirected("/d"))
	mark(s.Upper, file, redirected("/m"))
	mark(s.Upper, api.Index, redirected("/z"))
	mark(s.Upper, api.Work, redirected("."))
	mark(s.Upper, link, redirected(""))
	mark(s.Upper, root, redirected("/"))
	mustFind(t, "all clauses", s, root, api.ClauseForm, api.Work, api.ClauseForm, api.Index, api.ClauseLoop, file, api.ClauseForm, link, api.ClauseForm,
		dir, api.ClauseLoop, sub, api.ClauseGone, deep, api.ClauseSame)
}

// P21.3: which clause is told, where several are violated.
func TestFindingsFirstClause(t *testing.T) {
	s := hills(named("x", dir))
	mark(s.Upper, dir, redirected("/x"))
	mustFind(t, "a loop, and gone", s, dir, api.ClauseLoop)
	s = hills(named("d", dir), named("a", sub))
	mark(s.Upper, sub, redirected("d"))
	mark(s.Upper, dir, redirected("/d"))
	slices.Reverse(s.Upper.Nodes[root-1].Entries)
	mustFind(t, "a loop, and the same", s, dir, api.ClauseLoop)
	s = hills(named("x/", dir))
	mark(s.Upper, dir, redirected("x/"))
	mustFind(t, "its form, its last name, and gone", s, dir, api.ClauseForm)
	s = hills()
	mark(s.Upper, root, redirected("/"))
	mustFind(t, "its form, and a loop", s, root, api.ClauseForm)
}

func letters() []string {
	return []string{"a", "b", "c", "d"}
}

func someEntries(r *rand.Rand, inodes, most int) []api.Entry {
	var l []api.Entry
	for range r.Intn(most) {
		l = append(l, api.Entry{Slot: r.Intn(16), Ino: r.Intn(inodes+2) + r.Intn(2), Name: letters()[r.Intn(4)]})
	}
	return l
}

func someAttr(r *rand.Rand) api.Attr {
	to := []string{"/a", "/a", "/b", "/b", "/c", "/c", "/d", "/d", "/a/b", "/b/a", "/c/a", "/", "a", "b", "c", "d", "e", "/d/a", "//", "/e"}
	a := redirected(to[r.Intn(len(to))])
	switch r.Intn(12) {
	case 0, 1, 2:
		return api.Attr{}
	case 3:
		return opaque()
	case 4:
		a.Has, a.Opaque = a.Has+1, api.Mark-r.Intn(2)
	case 5:
		a.Has = r.Intn(64) - 32
	}
	return a
}

func someBranch(r *rand.Rand, attrs bool, kinds ...int) api.Branch {
	l := make([]api.Node, 2+r.Intn(10))
	for i := range l {
		l[i] = api.Node{Kind: kinds[r.Intn(len(kinds))], Entries: someEntries(r, len(l), 9)}
		if attrs || r.Intn(8) == 0 {
			l[i].Attr = someAttr(r)
		}
	}
	l[0].Kind = []int{1, 1, 1, 1, 1, 1, 1, 1, 1, 2}[r.Intn(10)]
	if r.Intn(4) != 0 {
		l[0].Attr = api.Attr{}
	}
	return api.Branch{Nodes: l}
}

// some is a stack of any layers, of few names and nodes, so that they often meet.
func some(r *rand.Rand) api.Stack {
	s := api.Stack{Upper: someBranch(r, true, 0, 1, 1, 1, 1, 1, 1, 2, 3, 4, 5)}
	for range max(r.Intn(4), r.Intn(4)) {
		s.Lowers = append(s.Lowers, someBranch(r, false, 0, 1, 1, 1, 1, 1, 1, 1, 1, 1, 2, 3, 4))
	}
	return s
}

// model is a second reading of the chapter: a stack, and what the calls ahead tell of it.
type model struct {
	s     api.Stack
	ways  []api.Way
	views []api.View
}

func read(s api.Stack) model {
	ways, views := view.Tree(s)
	return model{s, ways, views}
}

func (m model) attr(i int) api.Attr {
	return m.s.Upper.Nodes[m.ways[i].Ino-1].Attr
}

func (m model) plain(i int) bool {
	return m.attr(i).Has&2 == 0
}

func (m model) claim(i int) api.Place {
	for _, p := range m.views[i].Lower {
		return p
	}
	return api.Place{}
}

// early is what a directory violates of the clauses ahead of ClauseSame.
func (m model) early(i int) int {
	a := m.attr(i)
	own := walk.Path(m.ways, i)
	names, absolute, ok := path.Redirect(a.Redirect)
	switch {
	case i == 0 || !ok:
		return 9
	case absolute && strings.HasPrefix(path.Join(own)+"/", strings.TrimSuffix(path.Join(names), "/")+"/"):
		return 10
	case !absolute && own[len(own)-1] == a.Redirect:
		return 10
	case m.claim(i) == api.Place{} && (a.Has&1 == 0 || a.Opaque != 121):
		return 11
	}
	return 0
}

// late is what a directory violates: what those ahead of it claim counts also if they are ClauseSame, as then another one ahead has claimed it.
func (m model) late(i int) int {
	if clause := m.early(i); clause != 0 || m.claim(i) == (api.Place{}) {
		return clause
	}
	for j := range m.ways {
		if m.claim(j) == m.claim(i) && (m.plain(j) || j < i && m.early(j) == 0) {
			return 12
		}
	}
	return 0
}

func (m model) findings() []api.Finding {
	var l []api.Finding
	reach := walk.Reach(m.s.Upper, 1)
	for i, n := range m.s.Upper.Nodes {
		if !reach[i] || n.Attr.Has&2 == 0 {
			continue
		}
		clause := 9
		for k, w := range m.ways {
			if w.Ino == i+1 {
				clause = m.late(k)
			}
		}
		if clause != 0 {
			l = append(l, api.Finding{Clause: clause, Layer: 0, Ino: i + 1, Slot: -1})
		}
	}
	return l
}

// P21.2, P21.3: many stacks, held against the model.
func TestMany(t *testing.T) {
	r := rand.New(rand.NewSource(1))
	met := map[int]int{}
	for range 30000 {
		s := some(r)
		m := read(s)
		want := m.findings()
		if got := redirect.Findings(s); !slices.Equal(got, want) {
			t.Fatalf("Findings(%v): %v, not %v", s, got, want)
		}
		var claims []api.Place
		for i := range m.ways {
			claims = append(claims, m.claim(i))
		}
		if got := redirect.Claims(s); !slices.Equal(got, claims) {
			t.Fatalf("Claims(%v): %v, not %v", s, got, claims)
		}
		for _, f := range want {
			met[f.Clause]++
		}
	}
	for clause := api.ClauseForm; clause <= api.ClauseSame; clause++ {
		if met[clause] < 1000 {
			t.Fatal(met)
		}
	}
}

// P21.4: at most one of a node, and none of one without HasRedirect.
func TestAtMostOne(t *testing.T) {
	r := rand.New(rand.NewSource(2))
	for range 5000 {
		s := some(r)
		ahead := 0
		for _, f := range redirect.Findings(s) {
			if f.Ino <= ahead || f.Ino > len(s.Upper.Nodes) || s.Upper.Nodes[f.Ino-1].Attr.Has&api.HasRedirect == 0 {
				t.Fatalf("%v: %v", s, f)
			}
			ahead = f.Ino
		}
		for i := range s.Upper.Nodes {
			s.Upper.Nodes[i].Attr.Has &^= api.HasRedirect
		}
		mustFind(t, "without HasRedirect", s)
	}
}

// P21.1 to P21.3: the layout is not asked.
func TestAsksNoLayout(t *testing.T) {
	for _, g := range []api.Geo{{}, {Lowers: -1}, {Lowers: 1, Inodes: 1}, {Lowers: math.MaxInt, Inodes: math.MaxInt}} {
		s := stack(above(named("x", dir), named("y", sub), named("d", last)), below(), below(), below(), below(), below(named("d", lowDir)))
		mark(s.Upper, dir, redirected("/d"))
		mark(s.Upper, sub, redirected("/e"))
		s.Geo = g
		mustFind(t, "another layout", s, dir, api.ClauseSame, sub, api.ClauseGone)
		mustClaim(t, "another layout", s, 1, root, 5, lowDir, 0, 0, 5, lowDir)
	}
}

// shared is a stack with several claims and findings.
func shared() api.Stack {
	s := hills(named("x", dir), named("y", sub), named("d", last))
	mark(s.Upper, dir, redirected("/d"))
	mark(s.Upper, sub, redirected("/e"))
	return s
}

// What is handed in stays as it is, and answers share no memory with it, nor with one another.
func TestAnswersShareNothing(t *testing.T) {
	s := shared()
	own := []string{"a", "b"}
	redirect.Loops(own, "/a")
	found, claims := redirect.Findings(s), redirect.Claims(s)
	wantFound, wantClaims := slices.Clone(found), slices.Clone(claims)
	if len(found) != 2 || len(claims) != 4 {
		t.Fatal(found, claims)
	}
	foundAgain, claimsAgain := redirect.Findings(s), redirect.Claims(s)
	clear(found[:cap(found)])
	clear(claims[:cap(claims)])
	if !reflect.DeepEqual(s, shared()) || !slices.Equal(own, []string{"a", "b"}) {
		t.Error("what was handed in is changed")
	}
	for _, b := range append(s.Lowers, s.Upper) {
		for i := range b.Nodes {
			clear(b.Nodes[i].Entries)
		}
		clear(b.Nodes)
	}
	if !slices.Equal(foundAgain, wantFound) || !slices.Equal(claimsAgain, wantClaims) {
		t.Errorf("%v, %v: not %v, %v", foundAgain, claimsAgain, wantFound, wantClaims)
	}
}
