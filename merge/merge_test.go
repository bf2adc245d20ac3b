package merge_test

import (
	"bytes"
	"math"
	"math/rand"
	"reflect"
	"slices"
	"strings"
	"testing"

	"craquelure/api"
	"craquelure/merge"
	"craquelure/path"
	"craquelure/sample"
	"craquelure/view"
)

const root = api.Root

// Inodes of lower layers, and, from 11 on, of the upper one.
const (
	lowDir, lowFile, lowLink, lowWhite, lowLast = 2, 3, 4, 5, 6
	dir, file, link, white, copied, opaqueDir   = 11, 12, 13, 14, 15, 16
	last                                        = 17
)

const gen = 7 // of all lower nodes

func opaque() api.Attr {
	return api.Attr{Has: api.HasOpaque, Opaque: api.Mark}
}

func named(name string, ino int) api.Entry {
	return api.Entry{Ino: ino, Name: name}
}

// below is a lower layer, of which each File and Link says what it is, and where.
func below(at string, entries ...api.Entry) api.Branch {
	l := make([]api.Node, lowLast)
	l[root-1] = api.Node{Kind: api.Dir, Gen: gen, Entries: entries}
	l[lowDir-1] = api.Node{Kind: api.Dir, Gen: gen, Entries: []api.Entry{named("in"+at, lowFile), named("sub", lowLast)}}
	l[lowFile-1] = api.Node{Kind: api.File, Gen: gen, Data: []byte("file " + at)}
	l[lowLink-1] = api.Node{Kind: api.Link, Gen: gen, Data: []byte("link " + at)}
	l[lowWhite-1] = api.Node{Kind: api.White, Gen: gen}
	l[lowLast-1] = api.Node{Kind: api.Dir, Gen: gen, Entries: []api.Entry{named("deep"+at, lowLink)}}
	return api.Branch{Nodes: l}
}

func above(entries ...api.Entry) api.Branch {
	l := make([]api.Node, last)
	for ino, kind := range map[int]int{root: api.Dir, api.Work: api.Dir, api.Index: api.Dir, dir: api.Dir, white: api.White, opaqueDir: api.Dir, last: api.Dir} {
		l[ino-1] = api.Node{Kind: kind}
	}
	l[root-1].Entries = entries
	l[dir-1].Entries = []api.Entry{named("up", file)}
	l[opaqueDir-1].Attr = opaque()
	l[file-1] = api.Node{Kind: api.File, Data: []byte("upper file")}
	l[link-1] = api.Node{Kind: api.Link, Data: []byte("upper link")}
	l[copied-1] = api.Node{Kind: api.File, Data: []byte("own"), Attr: meta(1, lowFile, gen)}
	return api.Branch{Nodes: l}
}

// meta is attributes of a copy whose bytes are still those of that handle.
func meta(layer, ino, gen int) api.Attr {
	return api.Attr{Has: api.HasMeta | api.HasOrigin, Origin: api.Origin{Layer: layer, Ino: ino, Gen: gen}}
}

// whole is a stack with all kinds, upper and lower ones.
func whole() api.Stack {
	up := above(named("d", dir), named("f", file), named("l", link), named("w", white), named("c", copied), named("o", opaqueDir), named("r", last))
	up.Nodes[last-1].Attr = api.Attr{Has: api.HasRedirect, Redirect: "/b/sub"}
	return api.Stack{Geo: api.Geo{Lowers: 2, Inodes: last, Blocks: 9, Log: 5}, Upper: up, Lowers: []api.Branch{
		below("1", named("d", lowDir), named("w", lowDir), named("o", lowDir), named("lf", lowFile), named("ll", lowLink), named("lw", lowWhite)),
		below("2", named("d", lowDir), named("b", lowDir), named("lw", lowDir), named("f", lowDir)),
	}}
}

func seen(upper int, l ...int) api.View {
	v := api.View{Upper: upper}
	for i := 0; i < len(l); i += 2 {
		v.Lower = append(v.Lower, api.Place{Layer: l[i], Ino: l[i+1]})
	}
	return v
}

func at(layer, ino int) api.Place {
	return api.Place{Layer: layer, Ino: ino}
}

func mustAt(t *testing.T, why string, s api.Stack, names []string, kind int, v api.View, p api.Place) {
	t.Helper()
	k, w, q := merge.At(s, names)
	if k != kind || w.Upper != v.Upper || !slices.Equal(w.Lower, v.Lower) || q != p {
		t.Errorf("%s: At(%q): %d, %v, %v, not %d, %v, %v", why, names, k, w, q, kind, v, p)
	}
}

func mustNotAt(t *testing.T, why string, s api.Stack, names ...string) {
	t.Helper()
	mustAt(t, why, s, names, 0, api.View{}, api.Place{})
}

func mustBytes(t *testing.T, why string, s api.Stack, p api.Place, want string) {
	t.Helper()
	if got := merge.Bytes(s, p); string(got) != want {
		t.Errorf("%s: Bytes(%v): %q, not %q", why, p, got, want)
	}
}

// mustShow wants that the path shows that File or Link.
func mustShow(t *testing.T, s api.Stack, path string, kind int, data string) {
	t.Helper()
	x, ok := merge.Of(s, path)
	if !ok || x.Kind != kind || string(x.Data) != data || len(x.Names) != 0 {
		t.Errorf("Of(%q): %v, %v, not %d, %q", path, x, ok, kind, data)
	}
}

// mustList wants that the path shows a Dir with these names.
func mustList(t *testing.T, s api.Stack, path string, names ...string) {
	t.Helper()
	x, ok := merge.Of(s, path)
	if !ok || x.Kind != api.Dir || len(x.Data) != 0 || !slices.Equal(x.Names, names) {
		t.Errorf("Of(%q): %v, %v, not %q", path, x, ok, names)
	}
}

func mustNotShow(t *testing.T, s api.Stack, path string) {
	t.Helper()
	if x, ok := merge.Of(s, path); ok || x.Kind != 0 || len(x.Data) != 0 || len(x.Names) != 0 {
		t.Errorf("Of(%q): %v, %v", path, x, ok)
	}
}

// P18.1: of no names: a root with an Upper, without one, and without Upper and Lower.
func TestAtRoot(t *testing.T) {
	s := whole()
	both := seen(root, 1, root, 2, root)
	mustAt(t, "nil", s, nil, api.Dir, both, at(0, root))
	mustAt(t, "none", s, []string{}, api.Dir, both, at(0, root))
	s.Upper.Nodes[root-1].Attr = opaque()
	mustAt(t, "opaque", s, nil, api.Dir, seen(root), at(0, root))
	for _, kind := range append(sample.Far(), api.Free, api.File, api.Link, api.White, -1, 5) {
		s := whole()
		s.Upper.Nodes[root-1].Kind = kind
		mustAt(t, "no Upper", s, nil, api.Dir, seen(0, 1, root, 2, root), at(1, root))
		s.Lowers[0].Nodes[root-1].Kind = kind
		mustAt(t, "no Upper, and no Dir in the first layer", s, nil, api.Dir, seen(0, 2, root), at(2, root))
		s.Lowers[1].Nodes[root-1].Kind = kind
		mustAt(t, "nothing that is a Dir", s, nil, api.Dir, api.View{}, api.Place{})
		mustNotAt(t, "nothing that is a Dir", s, "d")
	}
	s = whole()
	s.Lowers = nil
	mustAt(t, "no Lower", s, nil, api.Dir, seen(root), at(0, root))
	s.Upper = api.Branch{}
	mustAt(t, "no Upper, no Lower", s, nil, api.Dir, api.View{}, api.Place{})
	mustAt(t, "no stack", api.Stack{}, nil, api.Dir, api.View{}, api.Place{})
	mustNotAt(t, "no stack", api.Stack{}, "d")
	mustNotAt(t, "no stack", api.Stack{}, "")
}

// P18.1: names, one behind the other, of upper and lower ones.
func TestAt(t *testing.T) {
	s := whole()
	none := api.View{}
	mustAt(t, "a Dir in all", s, []string{"d"}, api.Dir, seen(dir, 1, lowDir, 2, lowDir), at(0, dir))
	mustAt(t, "an upper File in it", s, []string{"d", "up"}, api.File, none, at(0, file))
	mustAt(t, "a lower File in it", s, []string{"d", "in2"}, api.File, none, at(2, lowFile))
	mustAt(t, "a lower Dir in it", s, []string{"d", "sub"}, api.Dir, seen(0, 1, lowLast, 2, lowLast), at(1, lowLast))
	mustAt(t, "a Link in that", s, []string{"d", "sub", "deep1"}, api.Link, none, at(1, lowLink))
	mustAt(t, "a File", s, []string{"f"}, api.File, none, at(0, file))
	mustAt(t, "a Link", s, []string{"l"}, api.Link, none, at(0, link))
	mustAt(t, "a copy", s, []string{"c"}, api.File, none, at(0, copied))
	mustAt(t, "an opaque Dir", s, []string{"o"}, api.Dir, seen(opaqueDir), at(0, opaqueDir))
	mustAt(t, "a redirect", s, []string{"r"}, api.Dir, seen(last, 2, lowLast), at(0, last))
	mustAt(t, "through a redirect", s, []string{"r", "deep2"}, api.Link, none, at(2, lowLink))
	mustAt(t, "a lower File", s, []string{"lf"}, api.File, none, at(1, lowFile))
	mustAt(t, "a lower Dir", s, []string{"b"}, api.Dir, seen(0, 2, lowDir), at(2, lowDir))
	mustAt(t, "a File in it", s, []string{"b", "in2"}, api.File, none, at(2, lowFile))
}

// P18.1: names that are not found, and such as are asked of what is no Dir.
func TestAtNothing(t *testing.T) {
	s := whole()
	for _, names := range [][]string{
		{"w"}, {"lw"}, {"z"}, {""}, {"."}, {"/"}, {"/d"}, {"d/up"}, {"d", "z"}, {"d", ""}, {"", "d"}, {"z", "d"}, // not found
		{"w", "in1"}, {"lw", "in2"}, {"w", "sub", "deep1"}, // through a White, over a Dir that has the rest
		{"f", "in2"}, {"f", "sub"}, {"f", "f"}, {"f", ""}, {"l", "d"}, {"lf", "d"}, {"ll", "f"}, {"c", "c"}, {"d", "up", "up"}, // no Dir
		{"o", "in1"}, {"r", "deep1"}, {"r", "sub"}, {"d", "w"}, {"r", "up"}, {"d", "sub", "deep1", "deep1"}, {"b", "in1"},
	} {
		mustNotAt(t, "nothing", s, names...)
	}
}

// P18.1: through all upper kinds over a Dir: what is no Dir ends it, though there is one beneath.
func TestAtThrough(t *testing.T) {
	for ino, found := range map[int]bool{dir: true, file: false, link: false, white: false, opaqueDir: false, copied: false, last: true, 5: true, 99: true} {
		s := whole()
		s.Upper = above(named("d", ino))
		if found {
			mustAt(t, "through a Dir, or none", s, []string{"d", "in1"}, api.File, api.View{}, at(1, lowFile))
		} else {
			mustNotAt(t, "through no Dir", s, "d", "in1")
		}
	}
}

// P18.1: many names, round and round.
func TestAtLong(t *testing.T) {
	s := whole()
	s.Upper = above(named("x", root))
	s.Lowers = s.Lowers[:1]
	s.Lowers[0].Nodes[root-1].Entries = []api.Entry{named("x", root), named("f", lowFile)}
	names := slices.Repeat([]string{"x"}, 10000)
	mustAt(t, "long", s, names, api.Dir, seen(root, 1, root), at(0, root))
	mustAt(t, "long", s, append(slices.Clone(names), "f"), api.File, api.View{}, at(1, lowFile))
	mustNotAt(t, "long", s, append(append(slices.Clone(names), "f"), names...)...)
	mustShow(t, s, strings.Repeat("/x", 10000)+"/f", api.File, "file 1")
}

// P18.2: of nodes of all kinds, upper and lower ones, their own Data.
func TestBytes(t *testing.T) {
	s := whole()
	mustBytes(t, "a File", s, at(0, file), "upper file")
	mustBytes(t, "a Link", s, at(0, link), "upper link")
	mustBytes(t, "a lower File", s, at(1, lowFile), "file 1")
	mustBytes(t, "a File further down", s, at(2, lowFile), "file 2")
	mustBytes(t, "a lower Link", s, at(2, lowLink), "link 2")
	mustBytes(t, "a Dir", s, at(0, dir), "")
	mustBytes(t, "a White", s, at(0, white), "")
	mustBytes(t, "a lower Dir", s, at(1, lowDir), "")
	mustBytes(t, "a Free one", s, at(0, 5), "")
	s.Upper.Nodes[dir-1].Data = []byte("odd")
	mustBytes(t, "a Dir with bytes", s, at(0, dir), "odd")
}

// P18.2: a Place of an inode, or of a layer, that is not there.
func TestBytesNowhere(t *testing.T) {
	s := whole()
	for _, n := range append(sample.Far(), -1, 0, last+1, last+2) {
		mustBytes(t, "no inode", s, at(0, n), "")
		mustBytes(t, "no lower inode", s, at(1, n), "")
		mustBytes(t, "no lower inode", s, at(2, n), "")
	}
	for _, n := range append(sample.Far(), -1, 3, 4) {
		for ino := range last + 1 {
			mustBytes(t, "no layer", s, at(n, ino), "")
		}
		mustBytes(t, "neither", s, at(n, n), "")
	}
	mustBytes(t, "no stack", api.Stack{}, at(0, file), "")
	mustBytes(t, "no stack", api.Stack{}, at(1, lowFile), "")
}

// copyOf is a stack whose upper inode copied has these attributes, and whether it shows the bytes of its origin.
type copyOf struct {
	why  string
	attr api.Attr
	want string
}

// P18.2: copies whose Origin is found, is found and no File, is not found; without HasOrigin, and without HasMeta.
func TestBytesOfCopies(t *testing.T) {
	without := func(a api.Attr, has int) api.Attr {
		a.Has &^= has
		return a
	}
	copies := []copyOf{
		{"found", meta(1, lowFile, gen), "file 1"},
		{"found in the second layer", meta(2, lowFile, gen), "file 2"},
		{"a Link", meta(1, lowLink, gen), "own"},
		{"a Dir", meta(1, lowDir, gen), "own"},
		{"a White", meta(1, lowWhite, gen), "own"},
		{"another Gen", meta(1, lowFile, gen+1), "own"},
		{"Gen 0", meta(1, lowFile, 0), "own"},
		{"no inode", meta(1, lowLast+1, gen), "own"},
		{"inode 0", meta(1, 0, gen), "own"},
		{"layer 0", meta(0, lowFile, gen), "own"},
		{"the upper layer's own", meta(0, file, 0), "own"},
		{"no layer", meta(3, lowFile, gen), "own"},
		{"a zero one", meta(0, 0, 0), "own"},
		{"without HasOrigin", without(meta(1, lowFile, gen), api.HasOrigin), "own"},
		{"without HasMeta", without(meta(1, lowFile, gen), api.HasMeta), "own"},
		{"without both", api.Attr{Origin: meta(1, lowFile, gen).Origin}, "own"},
		{"all but these", api.Attr{Has: 31 &^ (api.HasMeta | api.HasOrigin), Origin: meta(1, lowFile, gen).Origin}, "own"},
		{"all", api.Attr{Has: 31, Origin: meta(1, lowFile, gen).Origin}, "file 1"},
	}
	for _, n := range sample.Far() {
		copies = append(copies, copyOf{"far", meta(n, lowFile, gen), "own"}, copyOf{"far", meta(1, n, gen), "own"}, copyOf{"far", meta(1, lowFile, n), "own"}, copyOf{"far", meta(n, n, n), "own"})
	}
	for _, c := range copies {
		s := whole()
		s.Upper.Nodes[copied-1].Attr = c.attr
		mustBytes(t, c.why, s, at(0, copied), c.want)
		mustShow(t, s, "/c", api.File, c.want)
		s.Upper.Nodes[copied-1].Data = nil
		mustBytes(t, c.why+", of no bytes of its own", s, at(0, copied), strings.TrimPrefix(c.want, "own"))
	}
}

// P18.2: just upper Files show bytes of others, and an origin that is empty shows none.
func TestBytesOfNoCopies(t *testing.T) {
	for _, kind := range append(sample.Far(), api.Free, api.Dir, api.Link, api.White, -1, 5) {
		s := whole()
		s.Upper.Nodes[copied-1].Kind = kind
		mustBytes(t, "no File", s, at(0, copied), "own")
	}
	s := whole()
	s.Upper.Nodes[link-1].Attr = meta(1, lowFile, gen)
	mustShow(t, s, "/l", api.Link, "upper link")
	s.Lowers[0].Nodes[lowFile-1].Attr = meta(2, lowFile, gen)
	mustBytes(t, "a lower File", s, at(1, lowFile), "file 1")
	mustBytes(t, "a copy of one that has an origin too", s, at(0, copied), "file 1")
	s.Lowers[0].Nodes[lowFile-1].Data = nil
	mustBytes(t, "a copy of an empty one", s, at(0, copied), "")
	mustBytes(t, "an empty one", s, at(1, lowFile), "")
}

// P18.2: what paths show: Dirs their names, Files and Links their bytes.
func TestOf(t *testing.T) {
	s := whole()
	mustList(t, s, "/", "b", "c", "d", "f", "l", "lf", "ll", "o", "r")
	mustList(t, s, "/d", "in1", "in2", "sub", "up")
	mustList(t, s, "/d/sub", "deep1", "deep2")
	mustList(t, s, "/o")
	mustList(t, s, "/r", "deep2")
	mustList(t, s, "/b", "in2", "sub")
	mustShow(t, s, "/f", api.File, "upper file")
	mustShow(t, s, "/l", api.Link, "upper link")
	mustShow(t, s, "/c", api.File, "file 1")
	mustShow(t, s, "/lf", api.File, "file 1")
	mustShow(t, s, "/ll", api.Link, "link 1")
	mustShow(t, s, "/d/up", api.File, "upper file")
	mustShow(t, s, "/d/in2", api.File, "file 2")
	mustShow(t, s, "/d/sub/deep2", api.Link, "link 2")
	mustList(t, api.Stack{}, "/")
	mustNotShow(t, api.Stack{}, "/d")
	s.Upper.Nodes[dir-1].Data = []byte("odd")
	mustList(t, s, "/d", "in1", "in2", "sub", "up")
	s.Upper.Nodes[file-1].Entries = []api.Entry{named("x", file)}
	mustShow(t, s, "/f", api.File, "upper file")
	mustNotShow(t, s, "/f/x")
}

// P18.2: texts that are no paths, and paths that show nothing.
func TestOfNothing(t *testing.T) {
	s := whole()
	for _, text := range []string{"", "d", "d/up", "//", "/d/", "//d", "/d//up", "/.", "/..", "/d/.", "/d/..", "/d/../f", "/./f", "/f/", "/D", "/ ", "/f ", " /f", "/f\x00", "/\xff", "/é", "/a-name-of-more", ".", "/" + strings.Repeat("/f", 1000)} {
		mustNotShow(t, s, text)
	}
	for _, text := range []string{"/z", "/w", "/lw", "/w/in1", "/f/in2", "/d/z", "/o/in1", "/l/d", "/r/up", "/d/up/up", "/a-name-of-12", "/z/z/z"} {
		mustNotShow(t, s, text)
	}
	s.Upper.Nodes[root-1].Entries = append(s.Upper.Nodes[root-1].Entries, named("", file), named("A", file), named("..", file))
	for _, text := range []string{"//", "/A", "/.."} { // an entry has such a name, but no path leads there
		mustNotShow(t, s, text)
	}
}

// P18.2: Same of such as differ in nothing, and in one thing alone.
func TestSame(t *testing.T) {
	x := func() api.Seen {
		return api.Seen{Kind: api.File, Data: []byte{1, 2}, Names: []string{"a", "b"}}
	}
	alike := [][2]api.Seen{{x(), x()}, {}, {{Data: []byte{}, Names: []string{}}, {}}, {{Kind: -1}, {Kind: -1}}}
	for _, p := range alike {
		if !merge.Same(p[0], p[1]) || !merge.Same(p[1], p[0]) {
			t.Errorf("%v and %v are not the same", p[0], p[1])
		}
	}
	others := make([]api.Seen, 0, 20)
	for _, kind := range append(sample.Far(), 0, 1, 3, 4) {
		y := x()
		y.Kind = kind
		others = append(others, y)
	}
	for _, data := range [][]byte{nil, {1}, {2}, {1, 3}, {2, 1}, {1, 2, 0}, {1, 2, 1, 2}} {
		y := x()
		y.Data = data
		others = append(others, y)
	}
	for _, names := range [][]string{nil, {"a"}, {"b"}, {"b", "a"}, {"a", "c"}, {"a", "b", ""}, {"ab"}, {"a", "B"}, {"", "a", "b"}} {
		y := x()
		y.Names = names
		others = append(others, y)
	}
	for _, y := range others {
		if merge.Same(x(), y) || merge.Same(y, x()) {
			t.Errorf("%v and %v are the same", x(), y)
		}
		if !merge.Same(y, y) {
			t.Errorf("%v is not the same as itself", y)
		}
	}
}

// P18.3: the root is always shown, whatever the stack is.
func TestRootIsShown(t *testing.T) {
	for _, kind := range append(sample.Far(), 0, 1, 2, 3, 4, 5, -1) {
		s := whole()
		s.Upper.Nodes[root-1].Kind = kind
		s.Lowers[0].Nodes[root-1].Kind = kind
		s.Lowers[1].Nodes[root-1].Kind = kind
		if x, ok := merge.Of(s, "/"); !ok || x.Kind != api.Dir || len(x.Data) != 0 {
			t.Errorf("the root: %v, %v", x, ok)
		}
	}
}

func letters() []string {
	return []string{"a", "b", "c"}
}

func someNode(r *rand.Rand, nodes, layer int) api.Node {
	n := api.Node{Kind: []int{0, 1, 1, 1, 2, 2, 2, 3, 4, 5}[r.Intn(10)], Gen: r.Intn(8) / 7}
	if n.Kind == api.File || n.Kind == api.Link {
		n.Data = []byte{byte(layer), byte(r.Intn(256))}
	}
	to := []string{"/a", "/b", "/a/b", "/", "a", "b", "/c/a", "", "//", "."}
	switch r.Intn(3) {
	case 0:
		n.Attr = api.Attr{Has: api.HasRedirect, Redirect: to[r.Intn(len(to))]}
	case 1:
		n.Attr = api.Attr{Has: r.Intn(4), Opaque: api.Mark - r.Intn(4)/3, Redirect: to[r.Intn(len(to))]}
	}
	if n.Kind == api.File && r.Intn(4) != 0 {
		n.Attr = api.Attr{Has: []int{20, 20, 20, 28, 16, 4}[r.Intn(6)], Origin: api.Origin{Layer: r.Intn(4), Ino: r.Intn(7), Gen: r.Intn(8) / 7}}
	}
	for range r.Intn(6) {
		n.Entries = append(n.Entries, api.Entry{Slot: r.Intn(16), Ino: r.Intn(nodes + 2), Name: letters()[r.Intn(3)]})
	}
	return n
}

// some is a stack of any layers, of few names and nodes, so that they often meet.
func some(r *rand.Rand) api.Stack {
	branch := func(layer int) api.Branch {
		l := make([]api.Node, 1+r.Intn(7))
		for i := range l {
			l[i] = someNode(r, len(l), layer)
		}
		l[0].Kind = []int{1, 1, 1, 1, 1, 1, 1, 1, 2, 0}[r.Intn(10)]
		return api.Branch{Nodes: l}
	}
	s := api.Stack{Upper: branch(0)}
	for i := range r.Intn(4) {
		s.Lowers = append(s.Lowers, branch(i+1))
	}
	return s
}

// model is what a path has come to, by a second reading of chapters 16 to 18 that calls none of them.
type model struct {
	kind   int
	upper  int
	lower  []api.Place
	at     api.Place
	layers []api.Branch // the upper one first
}

func (m model) node(p api.Place) api.Node {
	if p.Layer < 0 || p.Layer >= len(m.layers) || p.Ino < 1 || p.Ino > len(m.layers[p.Layer].Nodes) {
		return api.Node{}
	}
	return m.layers[p.Layer].Nodes[p.Ino-1]
}

// hit is what the first entry of that name leads to that is not Free.
func (m model) hit(p api.Place, name string) (api.Place, bool) {
	n := m.node(p)
	for _, e := range n.Entries {
		if q := at(p.Layer, e.Ino); n.Kind == 1 && e.Name == name && m.node(q).Kind != 0 {
			return q, true
		}
	}
	return api.Place{}, false
}

func marked(n api.Node) bool {
	return n.Kind == 1 && n.Attr.Has&1 == 1 && n.Attr.Opaque == 121
}

// find is what the name shows in these directories together: its kind, and where.
func (m model) find(dirs []api.Place, name string) (int, []api.Place) {
	var l []api.Place
	for _, d := range dirs {
		p, ok := m.hit(d, name)
		kind := m.node(p).Kind
		if !ok || kind > 4 {
			continue
		}
		if kind != 1 && (len(l) > 0 || kind == 4) {
			break
		}
		if kind != 1 {
			return kind, []api.Place{p}
		}
		l = append(l, p)
		if marked(m.node(p)) {
			break
		}
	}
	if len(l) > 0 {
		return 1, l
	}
	return 0, nil
}

func (m model) roots() []api.Place {
	var l []api.Place
	for i := 1; i < len(m.layers); i++ {
		if p := at(i, 1); m.node(p).Kind == 1 {
			l = append(l, p)
			if marked(m.node(p)) {
				break
			}
		}
	}
	return l
}

func newModel(s api.Stack) model {
	m := model{kind: 1, layers: append([]api.Branch{s.Upper}, s.Lowers...)}
	n := m.node(at(0, 1))
	if !marked(n) {
		m.lower = m.roots()
	}
	if n.Kind == 1 {
		m.upper, m.at = 1, at(0, 1)
	} else if len(m.lower) > 0 {
		m.at = m.lower[0]
	}
	return m
}

// part is the lower part of an upper directory.
func (m model) part(n api.Node, name string) []api.Place {
	from, names := m.lower, []string{name}
	if n.Attr.Has&2 == 2 {
		l, absolute, ok := path.Redirect(n.Attr.Redirect)
		if names = l; absolute {
			from = m.roots()
		}
		if !ok {
			return nil
		}
	}
	for _, x := range names {
		kind, found := m.find(from, x)
		if kind != 1 {
			return nil
		}
		from = found
	}
	return from
}

func (m model) step(name string) model {
	next := model{layers: m.layers}
	if p, ok := m.hit(at(0, m.upper), name); ok {
		n := m.node(p)
		if n.Kind >= 1 && n.Kind <= 3 {
			next.kind, next.at = n.Kind, p
		}
		if n.Kind == 1 {
			next.upper = p.Ino
		}
		if n.Kind == 1 && !marked(n) {
			next.lower = m.part(n, name)
		}
		return next
	}
	kind, l := m.find(m.lower, name)
	if next.kind = kind; kind != 0 {
		next.at = l[0]
	}
	if kind == 1 {
		next.lower = l
	}
	return next
}

func (m model) seen() api.Seen {
	x := api.Seen{Kind: m.kind}
	n := m.node(m.at)
	if m.kind == 0 {
		return x
	}
	if m.kind == 1 {
		for _, name := range letters() {
			if m.step(name).kind != 0 {
				x.Names = append(x.Names, name)
			}
		}
		return x
	}
	x.Data = n.Data
	o := n.Attr.Origin
	from := m.node(at(o.Layer, o.Ino))
	if m.at.Layer == 0 && m.kind == 2 && n.Attr.Has&20 == 20 && o.Layer > 0 && from.Kind == 2 && from.Gen == o.Gen {
		x.Data = from.Data
	}
	return x
}

func mustSee(t *testing.T, s api.Stack, names []string, m model) {
	t.Helper()
	mustAt(t, "any stack", s, names, m.kind, api.View{Upper: m.upper, Lower: m.lower}, m.at)
	want := m.seen()
	x, ok := merge.Of(s, path.Join(names))
	if ok != (m.kind != 0) || x.Kind != want.Kind || !bytes.Equal(x.Data, want.Data) || !slices.Equal(x.Names, want.Names) {
		t.Errorf("Of(%q): %v, %v, not %v", names, x, ok, want)
	}
	if t.Failed() {
		t.Fatal(s)
	}
}

// P18.1 to P18.3: many stacks, held against the model, path by path.
func TestMany(t *testing.T) {
	const copies = 9
	r := rand.New(rand.NewSource(1))
	met := map[int]int{}
	for range 40000 {
		s := some(r)
		m := newModel(s)
		mustSee(t, s, nil, m)
		var names []string
		for m.kind == api.Dir && len(names) < 6 {
			next := append(m.seen().Names, letters()[r.Intn(3)])
			names = append(names, next[r.Intn(len(next))])
			m = m.step(names[len(names)-1])
			mustSee(t, s, names, m)
			met[m.kind]++
		}
		if d := m.seen().Data; m.at.Layer == 0 && len(d) > 0 && d[0] != 0 {
			met[copies]++
		}
	}
	for _, kind := range []int{0, api.Dir, api.File, api.Link, copies} {
		if met[kind] < 60 {
			t.Fatal(met)
		}
	}
}

// P18.3: a path is shown just if its last name is one of Names of what is ahead of it; Of tells those Names.
func TestShownJustIfNamed(t *testing.T) {
	r := rand.New(rand.NewSource(2))
	for range 5000 {
		s := some(r)
		names := []string{}
		for range 4 {
			kind, v, _ := merge.At(s, names)
			ahead, shown := merge.Of(s, path.Join(names))
			if shown != (kind != 0) || kind == api.Dir && !slices.Equal(ahead.Names, view.Names(s, v)) || kind != api.Dir && len(ahead.Names) != 0 {
				t.Fatalf("Of(%q): %v, %v, but At is %d", names, ahead, shown, kind)
			}
			for _, name := range append(letters(), "e") {
				if _, ok := merge.Of(s, path.Join(append(names, name))); ok != slices.Contains(ahead.Names, name) {
					t.Fatalf("%v: %q behind %q: %v, but %v", s, name, names, ok, ahead)
				}
			}
			names = append(names, letters()[r.Intn(3)])
		}
	}
}

// P18.1, P18.2: the layout is not asked.
func TestAsksNoLayout(t *testing.T) {
	for _, g := range []api.Geo{{}, {Lowers: -1}, {Lowers: 1, Inodes: 1}, {Lowers: math.MaxInt, Inodes: math.MaxInt}} {
		s := whole()
		s.Geo = g
		mustShow(t, s, "/d/in2", api.File, "file 2")
		mustShow(t, s, "/c", api.File, "file 1")
	}
}

// What is handed in stays as it is, and answers share no memory with it.
func TestAnswersShareNothing(t *testing.T) {
	s := whole()
	for _, p := range []api.Place{at(0, file), at(0, link), at(0, copied), at(1, lowFile), at(2, lowLink)} {
		b := merge.Bytes(s, p)
		if len(b) == 0 {
			t.Fatal(p)
		}
		clear(b[:cap(b)])
	}
	for _, text := range []string{"/", "/d", "/f", "/c", "/lf", "/d/sub/deep1"} {
		x, _ := merge.Of(s, text)
		clear(x.Data[:cap(x.Data)])
		clear(x.Names[:cap(x.Names)])
	}
	names := []string{"d", "sub"}
	for n := range 3 {
		_, v, _ := merge.At(s, names[:n])
		clear(v.Lower[:cap(v.Lower)])
	}
	a, b := api.Seen{Data: []byte{1}, Names: []string{"x"}}, api.Seen{Data: []byte{1}, Names: []string{"x"}}
	if !merge.Same(a, b) || !bytes.Equal(a.Data, []byte{1}) || a.Names[0] != "x" {
		t.Error(a, b)
	}
	if !reflect.DeepEqual(s, whole()) || !slices.Equal(names, []string{"d", "sub"}) {
		t.Error("what was handed in is changed")
	}
}
