package sample_test

import (
	"bytes"
	"math/rand"
	"reflect"
	"testing"

	"craquelure/api"
	"craquelure/inv"
	"craquelure/sample"
	"craquelure/store"
)

// plain is a stack in which lists that have nothing are nil.
func plain(s api.Stack) api.Stack {
	for _, b := range append([]api.Branch{s.Upper}, s.Lowers...) {
		for i, n := range b.Nodes {
			if len(n.Data) == 0 {
				b.Nodes[i].Data = nil
			}
			if len(n.Entries) == 0 {
				b.Nodes[i].Entries = nil
			}
		}
	}
	return s
}

// Stacks are such that nothing is wrong with their images, which are those stacks again; all that a stack may have is met.
func TestStack(t *testing.T) {
	r := rand.New(rand.NewSource(1))
	met := map[string]int{}
	for range 1500 {
		g := api.Geo{Lowers: 1 + r.Intn(3), Inodes: 4 + r.Intn(12), Blocks: 60, Log: 1 + r.Intn(9)}
		s := sample.Stack(g, r.Intn)
		b := sample.Image(s)
		if l, e := inv.All(b); e != api.OK || len(l) != 0 {
			t.Fatalf("%v, %d of %v", l, e, s)
		}
		again, e := store.Stack(b)
		if e != api.OK || !reflect.DeepEqual(plain(again), plain(s)) {
			t.Fatalf("%v, not %v", again, s)
		}
		for _, n := range s.Upper.Nodes {
			for kind := range 5 {
				if n.Kind == kind {
					met["kind"+string(rune('0'+kind))]++
				}
			}
			for bit := range 5 {
				if n.Attr.Has>>bit&1 == 1 {
					met["has"+string(rune('0'+bit))]++
				}
			}
		}
		met["index"] += len(s.Upper.Nodes[api.Index-1].Entries)
	}
	for _, k := range []string{"kind0", "kind1", "kind2", "kind3", "kind4", "has0", "has1", "has2", "has3", "has4", "index"} {
		if met[k] < 100 {
			t.Errorf("%s: %d", k, met[k])
		}
	}
}

// What can't be laid is no image.
func TestImageOfNothing(t *testing.T) {
	g := api.Geo{Lowers: 1, Inodes: 4, Blocks: 1, Log: 1}
	root := api.Node{Kind: api.Dir, Entries: []api.Entry{{Slot: 0, Ino: 4, Name: "a"}}, Attr: api.Attr{Has: api.HasMeta}}
	low := []api.Branch{{}}
	for _, s := range []api.Stack{
		{},
		{Geo: g},
		{Geo: g, Lowers: low, Upper: api.Branch{Nodes: []api.Node{root}}},
		{Geo: g, Lowers: low, Upper: api.Branch{Nodes: []api.Node{{Kind: 9}}}},
		{Geo: g, Lowers: low, Upper: api.Branch{Nodes: make([]api.Node, 5)}},
		{Geo: g, Lowers: low, Upper: api.Branch{Nodes: []api.Node{{Kind: api.Dir, Attr: api.Attr{Has: 64}}}}},
	} {
		if b := sample.Image(s); b != nil {
			t.Errorf("an image of %v", s)
		}
	}
	if sample.Image(api.Stack{Geo: g, Lowers: low}) == nil {
		t.Error("no image of layers without nodes")
	}
}

// Lay changes a sector of an image of its own.
func TestLay(t *testing.T) {
	b := bytes.Repeat([]byte{1}, 192)
	got := sample.Lay(b, 1, bytes.Repeat([]byte{2}, 64))
	if !bytes.Equal(got, append(append(bytes.Repeat([]byte{1}, 64), bytes.Repeat([]byte{2}, 64)...), bytes.Repeat([]byte{1}, 64)...)) || b[64] != 1 {
		t.Error(got, b)
	}
}

// There is a harm of each clause, and just that is found then.
func TestHarms(t *testing.T) {
	for clause, h := range sample.Harms() {
		if clause == 0 {
			continue
		}
		if l, _ := inv.All(sample.Harmed(h)); len(h.Want) != 1 || h.Want[0].Clause != clause || !reflect.DeepEqual(l, h.Want) {
			t.Errorf("%s: %v, not %v", h.Why, l, h.Want)
		}
	}
	if !inv.Clean(sample.Harmed()) {
		t.Error("no harm")
	}
}

// All is met that can be wrong with an image, and that nothing is; Loose has much of what is wrong with how it is stored.
func TestWrongAndLoose(t *testing.T) {
	r := rand.New(rand.NewSource(2))
	var wrong, loose [api.ClausePending + 1]int
	for range 1500 {
		count(t, &wrong, sample.Wrong(r.Intn))
		count(t, &loose, sample.Loose(r.Intn))
	}
	for clause, n := range wrong {
		if n < 5 || clause >= api.ClausePtr && clause <= api.ClauseOrphan && loose[clause] < 100 {
			t.Errorf("clause %d: %d, %d", clause, n, loose[clause])
		}
	}
}

// count counts the images in which a clause is found, and those in which none is.
func count(t *testing.T, met *[api.ClausePending + 1]int, b []byte) {
	l, e := inv.All(b)
	if e != api.OK {
		t.Fatal(e)
	}
	if len(l) == 0 {
		met[0]++
	}
	for _, f := range l {
		met[f.Clause]++
	}
}
