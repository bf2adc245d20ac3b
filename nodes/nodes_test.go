package nodes_test

import (
	"math"
	"reflect"
	"testing"

	"craquelure/api"
	"craquelure/nodes"
)

// branch is so many nodes, of which each is told from all others by its Gen.
func branch(gen, n int) api.Branch {
	var b api.Branch
	for i := range n {
		b.Nodes = append(b.Nodes, api.Node{Kind: api.File, Gen: gen + i})
	}
	return b
}

func mustBe(t *testing.T, why string, got api.Node, gen int) {
	t.Helper()
	want := api.Node{}
	if gen != 0 {
		want = api.Node{Kind: api.File, Gen: gen}
	}
	if !reflect.DeepEqual(got, want) {
		t.Errorf("%s: %v, not %v", why, got, want)
	}
}

func TestOf(t *testing.T) {
	b := branch(100, 3)
	for ino := 1; ino <= 3; ino++ {
		mustBe(t, "a node", nodes.Of(b, ino), 99+ino)
	}
	for _, ino := range []int{math.MinInt, -1, 0, 4, 1 << 32, math.MaxInt} {
		mustBe(t, "no inode", nodes.Of(b, ino), 0)
		mustBe(t, "of no nodes", nodes.Of(api.Branch{}, ino), 0)
	}
}

func TestLower(t *testing.T) {
	s := api.Stack{Upper: branch(100, 4), Lowers: []api.Branch{branch(200, 3), {}, branch(400, 2)}}
	counts := []int{0, 3, 0, 2}
	for _, layer := range []int{math.MinInt, -1, 0, 1, 2, 3, 4, math.MaxInt} {
		for _, ino := range []int{math.MinInt, -1, 0, 1, 2, 3, 4, math.MaxInt} {
			gen := 0
			if layer >= 1 && layer <= 3 && ino >= 1 && ino <= counts[layer] {
				gen = 100*(layer+1) + ino - 1
			}
			mustBe(t, "a place", nodes.Lower(s, api.Place{Layer: layer, Ino: ino}), gen)
		}
	}
	mustBe(t, "no lower layer", nodes.Lower(api.Stack{Upper: branch(100, 4)}, api.Place{Layer: 1, Ino: 1}), 0)
}

func TestAt(t *testing.T) {
	s := api.Stack{Upper: branch(100, 4), Lowers: []api.Branch{branch(200, 3), {}, branch(400, 2)}}
	counts := []int{4, 3, 0, 2}
	for _, layer := range []int{math.MinInt, -1, 0, 1, 2, 3, 4, math.MaxInt} {
		for _, ino := range []int{math.MinInt, -1, 0, 1, 2, 3, 4, 5, math.MaxInt} {
			gen := 0
			if layer >= 0 && layer <= 3 && ino >= 1 && ino <= counts[layer] {
				gen = 100*(layer+1) + ino - 1
			}
			mustBe(t, "a place", nodes.At(s, api.Place{Layer: layer, Ino: ino}), gen)
		}
	}
	mustBe(t, "no stack", nodes.At(api.Stack{}, api.Place{Ino: 1}), 0)
}

func TestBeneath(t *testing.T) {
	s := api.Stack{Upper: branch(100, 4), Lowers: []api.Branch{branch(200, 3), branch(300, 2)}}
	for layer, want := range s.Lowers {
		if got := nodes.Beneath(s, layer+1); !reflect.DeepEqual(got, want) {
			t.Errorf("%v, not %v", got, want)
		}
	}
	for _, layer := range []int{math.MinInt, -1, 0, 3, math.MaxInt} {
		if got := nodes.Beneath(s, layer); len(got.Nodes) != 0 {
			t.Errorf("layer %d: %v", layer, got)
		}
	}
}

// named is a branch whose first node is of that kind, and has these entries; behind it are a File, a free node, and a Dir.
func named(kind int, entries ...api.Entry) api.Branch {
	return api.Branch{Nodes: []api.Node{{Kind: kind, Entries: entries}, {Kind: api.File}, {}, {Kind: api.Dir}}}
}

func TestEntriesAndFirst(t *testing.T) {
	l := []api.Entry{{Slot: 3, Ino: 3, Name: "x"}, {Slot: 9, Ino: 9, Name: "x"}, {Slot: 2, Ino: 4, Name: "y"}, {Slot: 5, Ino: 2, Name: "x"}, {Slot: 1, Ino: 4, Name: "x"}}
	b := named(api.Dir, l...)
	if got := nodes.Entries(b, 1); !reflect.DeepEqual(got, l) {
		t.Errorf("Entries: %v", got)
	}
	if e, n := nodes.First(b, 1, "x"); e != l[3] || n.Kind != api.File {
		t.Errorf("First: %v, %v", e, n)
	}
	if e, n := nodes.First(b, 1, "y"); e != l[2] || n.Kind != api.Dir {
		t.Errorf("First: %v, %v", e, n)
	}
	if e, n := nodes.First(b, 1, "z"); e != (api.Entry{}) || n.Kind != api.Free {
		t.Errorf("First of no name: %v, %v", e, n)
	}
	for _, kind := range []int{-1, api.Free, api.File, api.Link, api.White, 5} {
		b := named(kind, l...)
		e, n := nodes.First(b, 1, "x")
		if got := nodes.Entries(b, 1); len(got) != 0 || e != (api.Entry{}) || n.Kind != api.Free {
			t.Errorf("of kind %d: %v, %v, %v", kind, got, e, n)
		}
	}
	for _, dir := range []int{math.MinInt, -1, 0, 2, 3, 4, 5, math.MaxInt} {
		if e, n := nodes.First(b, dir, "x"); len(nodes.Entries(b, dir)) != 0 || e != (api.Entry{}) || n.Kind != api.Free {
			t.Errorf("of %d: %v, %v", dir, e, n)
		}
	}
}

func TestHas(t *testing.T) {
	for has := -33; has < 64; has++ {
		for bits := range 32 {
			want := true
			for bit := 1; bit < 32; bit *= 2 {
				want = want && (bits/bit%2 == 0 || has&bit != 0)
			}
			if got := nodes.Has(api.Node{Attr: api.Attr{Has: has}}, bits); got != want {
				t.Errorf("Has of %d, %d: %v", has, bits, got)
			}
		}
	}
}

func TestMarked(t *testing.T) {
	for kind := -1; kind < 6; kind++ {
		for mark := -1; mark < 257; mark++ {
			for has := range 32 {
				n := api.Node{Kind: kind, Attr: api.Attr{Has: has, Opaque: mark}}
				if got := nodes.Marked(n); got != (has%2 == 1 && mark == api.Mark) {
					t.Errorf("Marked of %v: %v", n, got)
				}
			}
		}
	}
}
