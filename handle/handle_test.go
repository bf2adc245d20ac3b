package handle_test

import (
	"fmt"
	"math"
	"math/rand"
	"reflect"
	"slices"
	"strings"
	"testing"

	"craquelure/api"
	"craquelure/handle"
)

// far is numbers that lie far off, and at the ends of what an int can hold.
func far() []int {
	return []int{math.MinInt, math.MinInt + 1, -1 << 32, -65536, -256, -16, -2, -1, 1 << 28, 1<<28 + 1, 1<<32 + 1, 1 << 40, math.MaxInt - 1, math.MaxInt}
}

// mustName wants that name of o, and o of that name (P15.3).
func mustName(t *testing.T, o api.Origin, want string) {
	t.Helper()
	if s, ok := handle.Name(o); s != want || !ok {
		t.Errorf("Name(%v): %q, %v, not %q", o, s, ok, want)
	}
	if got, ok := handle.Parse(want); got != o || !ok {
		t.Errorf("Parse(%q): %v, %v, not %v", want, got, ok, o)
	}
}

func mustNotName(t *testing.T, o api.Origin) {
	t.Helper()
	if s, ok := handle.Name(o); s != "" || ok {
		t.Errorf("Name(%v): %q, %v", o, s, ok)
	}
}

func mustNotParse(t *testing.T, s string) {
	t.Helper()
	if o, ok := handle.Parse(s); o != (api.Origin{}) || ok {
		t.Errorf("Parse(%q): %v, %v", s, o, ok)
	}
}

// P15.1, P15.3: ordinary handles, and the least and greatest numbers.
func TestName(t *testing.T) {
	for want, o := range map[string]api.Origin{
		"1001a0000003": {Layer: 1, Ino: 26, Gen: 3}, // the chapter's example
		"2001100000ff": {Layer: 2, Ino: 17, Gen: 255},
		"100000000000": {Layer: 1},
		"f00000000000": {Layer: 15},
		"a00000000000": {Layer: 10},
		"1ffff0000000": {Layer: 1, Ino: api.MaxCount},
		"1fffe0000000": {Layer: 1, Ino: api.MaxCount - 1},
		"10000fffffff": {Layer: 1, Gen: api.MaxGen},
		"10000ffffffe": {Layer: 1, Gen: api.MaxGen - 1},
		"ffffffffffff": {Layer: 15, Ino: api.MaxCount, Gen: api.MaxGen},
		"3123489abcde": {Layer: 3, Ino: 0x1234, Gen: 0x89abcde},
		"9fedc0765432": {Layer: 9, Ino: 0xfedc, Gen: 0x765432},
		"100010000010": {Layer: 1, Ino: 1, Gen: 16},
	} {
		mustName(t, o, want)
	}
}

// P15.1: each number beyond its ends, the others being right, or not.
func TestNameWrong(t *testing.T) {
	for _, n := range append(far(), 0, 16, 17, 255, 256) {
		mustNotName(t, api.Origin{Layer: n, Ino: 26, Gen: 3})
		mustNotName(t, api.Origin{Layer: n})
	}
	for _, n := range append(far(), api.MaxCount+1, api.MaxCount+2, 1<<20) {
		mustNotName(t, api.Origin{Layer: 1, Ino: n, Gen: 3})
		mustNotName(t, api.Origin{Layer: 15, Ino: n, Gen: api.MaxGen})
	}
	for _, n := range append(far(), api.MaxGen+1, api.MaxGen+2) {
		mustNotName(t, api.Origin{Layer: 1, Ino: 26, Gen: n})
		mustNotName(t, api.Origin{Layer: 15, Ino: api.MaxCount, Gen: n})
	}
	for _, n := range far() {
		mustNotName(t, api.Origin{Layer: n, Ino: n, Gen: n})
	}
}

// P15.1: texts of another length, also those whose Ino or Gen is too great, so that it takes one digit more.
func TestParseLength(t *testing.T) {
	whole := "1001a0000003"
	for n := range whole {
		mustNotParse(t, whole[:n])
		if n > 0 {
			mustNotParse(t, whole[n:])
		}
	}
	for _, s := range []string{
		"", "0", "1", "1001a00000030", "01001a0000003", "1001a0000003 ", " 1001a0000003", "1001a0000003\n", "1001a0000003\x00",
		"1100000000000", "1ffff10000000", "1000010000000", "1000000010000000", "1000100000000000",
		"100010000000100000001", strings.Repeat(whole, 2), strings.Repeat("1", 40), strings.Repeat("f", 1000),
	} {
		mustNotParse(t, s)
	}
}

// P15.1: of right length, at each place all bytes: just the small digits are taken, and no 0 at first.
func TestParseDigits(t *testing.T) {
	for _, s := range []string{"1001a0000003", "100000000000", "ffffffffffff", "2001100000ff", "123456789abc"} {
		for at := range s {
			for x := range 256 {
				b := []byte(s)
				b[at] = byte(x)
				digit := strings.IndexByte("0123456789abcdef", byte(x)) >= 0
				if !digit || at == 0 && x == '0' {
					mustNotParse(t, string(b))
					continue
				}
				var o api.Origin
				if _, e := fmt.Sscanf(string(b), "%1x%4x%7x", &o.Layer, &o.Ino, &o.Gen); e != nil {
					t.Fatal(e)
				}
				mustName(t, o, string(b))
			}
		}
	}
}

// P15.1: texts of right length that a number could be read of in other ways.
func TestParseWrong(t *testing.T) {
	for _, s := range []string{
		"000000000000", "0001a0000003", "0ffffFFFFFFF",
		"2001100000fF", "2001100000FF", "A00000000000", "1001A0000003", "1FFFF0000000",
		"+001a0000003", "-001a0000003", "1+01a0000003", "1-01a0000003", "1001a+000003", "1001a-000003", "1-0000000000", "10000-000000",
		"10x1a0000003", "10X1a0000003", "1001a0x00003", "1001a00_0003", "1_01a0000003", "1 01a0000003", "1001a 000003", "1001a000000g",
		"1001a000000\n", "1001a00000.3", "1001a\x00000003", "............", "            ", "xxxxxxxxxxxx",
		"1001a00000é", "é01a0000003", "1é1a0000003", "100٣0000003", "1001a000\xff\xfe03", "\xff\xff\xff\xff\xff\xff\xff\xff\xff\xff\xff\xff", "１001a00000", "日本語文",
	} {
		if len(s) != 12 {
			t.Fatalf("%q has %d bytes", s, len(s))
		}
		mustNotParse(t, s)
	}
}

// P15.1, P15.3: many handles are what another reading of the chapter tells, and come back; what is taken is a name.
func TestManyNames(t *testing.T) {
	r := rand.New(rand.NewSource(1))
	for range 20000 {
		o := api.Origin{Layer: r.Intn(18) - 1, Ino: r.Intn(1<<16+200) - 100, Gen: r.Intn(1<<28+1<<20) - 1<<19}
		if o.Layer < 1 || o.Layer > 15 || o.Ino < 0 || o.Ino > 65535 || o.Gen < 0 || o.Gen > 1<<28-1 {
			mustNotName(t, o)
			continue
		}
		mustName(t, o, fmt.Sprintf("%x%04x%07x", o.Layer, o.Ino, o.Gen))
	}
	for range 20000 {
		b := make([]byte, 11+r.Intn(20)/10+r.Intn(20)/19)
		for i := range b {
			b[i] = "0123456789abcdefABCDEFg-+"[r.Intn(16+r.Intn(18)/17*9)]
		}
		o, ok := handle.Parse(string(b))
		if name, named := handle.Name(o); ok != named || ok && name != string(b) {
			t.Errorf("Parse(%q): %v, %v, of which Name is %q, %v", b, o, ok, name, named)
		}
		if right := len(b) == 12 && b[0] != '0' && strings.Trim(string(b), "0123456789abcdef") == ""; ok != right {
			t.Errorf("Parse(%q): %v", b, ok)
		}
	}
}

// layers is a stack whose nodes are of all kinds, each with a Gen of its own: 100 times the layer, and the inode.
func layers() api.Stack {
	var s api.Stack
	kinds := []int{api.Dir, api.File, api.Link, api.White, api.Free, api.Dir, 5, -1}
	layer := func(n, nodes int) api.Branch {
		var b api.Branch
		for i := range nodes {
			x := api.Node{Kind: kinds[(i+n+7)%8], Gen: 100*n + i + 1, Impure: 1, Nlink: 2, Attr: api.Attr{Has: api.HasShown, Shown: 3}}
			switch x.Kind {
			case api.Dir:
				x.Entries = []api.Entry{{Slot: 2, Ino: 3, Name: "a"}, {Slot: 5, Ino: 1, Name: "b"}}
			case api.File, api.Link:
				x.Data = []byte{byte(n), byte(i), 9}
			}
			b.Nodes = append(b.Nodes, x)
		}
		return b
	}
	s.Geo = api.Geo{Lowers: 3, Inodes: 8, Blocks: 9, Log: 5}
	s.Upper = layer(0, 8)
	s.Lowers = []api.Branch{layer(1, 8), layer(2, 5), layer(3, 8)}
	return s
}

func mustNotFind(t *testing.T, why string, s api.Stack, o api.Origin) {
	t.Helper()
	if n, ok := handle.Find(s, o); ok || !reflect.DeepEqual(n, api.Node{}) {
		t.Errorf("%s: Find(%v): %v, %v", why, o, n, ok)
	}
}

func mustFind(t *testing.T, why string, s api.Stack, o api.Origin) {
	t.Helper()
	want := s.Lowers[o.Layer-1].Nodes[o.Ino-1]
	if n, ok := handle.Find(s, o); !ok || !reflect.DeepEqual(n, want) {
		t.Errorf("%s: Find(%v): %v, %v, not %v", why, o, n, ok, want)
	}
}

// P15.2: each node of each layer, of its Gen, of one beside it, and of one that is far off.
func TestFind(t *testing.T) {
	s := layers()
	found := map[int]int{}
	for i, b := range s.Lowers {
		for j, n := range b.Nodes {
			o := api.Origin{Layer: i + 1, Ino: j + 1, Gen: n.Gen}
			if n.Kind == api.Dir || n.Kind == api.File || n.Kind == api.Link {
				mustFind(t, "a node", s, o)
				found[n.Kind]++
			} else {
				mustNotFind(t, "of a kind that has none", s, o)
			}
			for _, gen := range append(far(), 0, n.Gen-1, n.Gen+1, -n.Gen, n.Gen+1<<28, n.Gen+1<<32, n.Gen+100, n.Gen+256) {
				o.Gen = gen
				mustNotFind(t, "another Gen", s, o)
			}
		}
	}
	if len(found) != 3 || found[api.Dir] < 2 || found[api.File] < 2 || found[api.Link] < 2 {
		t.Fatal(found)
	}
}

// P15.2: of a Free one nothing is found, also of Gen 0, and whatever else it says.
func TestFindFree(t *testing.T) {
	s := api.Stack{Lowers: []api.Branch{{Nodes: []api.Node{{}, {Kind: api.White}, {Data: []byte{1}, Nlink: 1}, {Kind: api.File}}}}}
	for ino := 1; ino <= 3; ino++ {
		mustNotFind(t, "free, or white", s, api.Origin{Layer: 1, Ino: ino})
	}
	mustFind(t, "Gen 0", s, api.Origin{Layer: 1, Ino: 4})
}

// P15.2: there is none in the upper layer, nor behind the last layer, nor behind a layer's last inode.
func TestFindNowhere(t *testing.T) {
	s := layers()
	for _, layer := range append(far(), 0, 4, 5, 15, 16) {
		for ino := range 10 {
			for n := range 4 {
				mustNotFind(t, "no such layer", s, api.Origin{Layer: layer, Ino: ino, Gen: 100*n + ino})
			}
		}
	}
	for i, b := range s.Lowers {
		for _, ino := range append(far(), 0, len(b.Nodes)+1, len(b.Nodes)+2, 24, 25, 65535) {
			for _, gen := range []int{0, 1, 100*(i+1) + ino, 100*(i+1) + 1, 100*(i+1) + len(b.Nodes)} {
				mustNotFind(t, "no such inode", s, api.Origin{Layer: i + 1, Ino: ino, Gen: gen})
			}
		}
	}
	mustNotFind(t, "no layers", api.Stack{Upper: s.Upper}, api.Origin{Layer: 1, Ino: 1, Gen: 101})
	mustNotFind(t, "no nodes", api.Stack{Lowers: make([]api.Branch, 3)}, api.Origin{Layer: 1, Ino: 1})
	mustNotFind(t, "nothing at all", api.Stack{}, api.Origin{})
}

// P15.2: the layers are those that are there, whatever the layout says.
func TestFindAsksNoLayout(t *testing.T) {
	s := layers()
	for _, g := range []api.Geo{{}, {Lowers: 1, Inodes: 1}, {Lowers: -1, Inodes: -1}, {Lowers: math.MaxInt, Inodes: math.MaxInt}} {
		s.Geo = g
		mustFind(t, "another layout", s, api.Origin{Layer: 3, Ino: 1, Gen: 301})
		mustNotFind(t, "another layout", s, api.Origin{Layer: 4, Ino: 1, Gen: 401})
	}
}

// P15.2: the same handle just if all three numbers are.
func TestSame(t *testing.T) {
	numbers := append(far(), 0, 1, 2, 15, 16)
	for _, a := range numbers {
		for _, b := range numbers {
			o, p := api.Origin{Layer: a, Ino: b, Gen: a}, api.Origin{Layer: a, Ino: b, Gen: b}
			if !handle.Same(o, o) || handle.Same(o, p) != (a == b) || handle.Same(p, o) != (a == b) {
				t.Errorf("Same of %v and %v", o, p)
			}
			for _, q := range []api.Origin{{Layer: b, Ino: b, Gen: a}, {Layer: a, Ino: a, Gen: a}} {
				if handle.Same(o, q) != (a == b) || handle.Same(q, o) != (a == b) {
					t.Errorf("Same of %v and %v", o, q)
				}
			}
		}
	}
	if !handle.Same(api.Origin{}, api.Origin{}) || handle.Same(api.Origin{Layer: 1, Ino: 2, Gen: 3}, api.Origin{Layer: 3, Ino: 2, Gen: 1}) {
		t.Error("Same")
	}
}

// The node that is found shares no memory with the stack, nor with another answer; the stack stays as it is.
func TestFoundSharesNothing(t *testing.T) {
	s := layers()
	for i, b := range s.Lowers {
		for j, n := range b.Nodes {
			o := api.Origin{Layer: i + 1, Ino: j + 1, Gen: n.Gen}
			x, _ := handle.Find(s, o)
			clear(x.Data[:cap(x.Data)])
			clear(x.Entries[:cap(x.Entries)])
			_ = append(x.Data, 7)
		}
	}
	if !reflect.DeepEqual(s, layers()) {
		t.Error("the stack is changed")
	}
	o := api.Origin{Layer: 1, Ino: 2, Gen: 102}
	x, _ := handle.Find(s, o)
	clear(s.Lowers[0].Nodes[1].Data)
	if !slices.Equal(x.Data, []byte{1, 1, 9}) {
		t.Errorf("the answer is changed: %v", x)
	}
	o = api.Origin{Layer: 1, Ino: 1, Gen: 101}
	x, _ = handle.Find(s, o)
	clear(s.Lowers[0].Nodes[0].Entries)
	if len(x.Entries) != 2 || x.Entries[0] != (api.Entry{Slot: 2, Ino: 3, Name: "a"}) {
		t.Errorf("the answer is changed: %v", x)
	}
}
