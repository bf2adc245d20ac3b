package nodes_test

import (
	"math"
	"reflect"
	"testing"

	"craquelure/api"
	"craquelure/nodes"
)

// branch is so many nodes, of which each is told from all others by its Gen.
func branch(gen, n int) api.Branch {
	var b api.Branch
	for i := range n {
		b.Nodes = append(b.Nodes, api.Node{Kind: api.File, Gen: gen + i})
	}
	return b
}

func mustBe(t *testing.T, why string, got api.Node, gen int) {
	t.Helper()
	want := api.Node{}
	if gen != 0 {
		want = api.Node{Kind: api.File, Gen: gen}
	}
	if !reflect.DeepEqual(got, want) {
		t.Errorf("%s: %v, not %v", why, got, want)
	}
}

func TestOf(t *testing.T) {
	b := branch(100, 3)
	for ino := 1; ino <= 3; ino++ {
		mustBe(t, "a node", nodes.Of(b, ino), 99+ino)
	}
	for _, ino := range []int{math.MinInt, -1, 0, 4, 1 << 32, math.MaxInt} {
		mustBe(t, "no inode", nodes.Of(b, ino), 0)
		mustBe(t, "of no nodes", nodes.Of(api.Branch{}, ino), 0)
	}
}

func TestLower(t *testing.T) {
	s := api.Stack{Upper: branch(100, 4), Lowers: []api.Branch{branch(200, 3), {}, branch(400, 2)}}
	counts := []int{0, 3, 0, 2}
	for _, layer := range []int{math.MinInt, -1, 0, 1, 2, 3, 4, math.MaxInt} {
		for _, ino := range []int{math.MinInt, -1, 0, 1, 2, 3, 4, math.MaxInt} {
			gen := 0
			if layer >= 1 && layer <= 3 && ino >= 1 && ino <= counts[layer] {
				gen = 100*(layer+1) + ino - 1
			}
			mustBe(t, "a place", nodes.Lower(s, api.Place{Layer: layer, Ino: ino}), gen)
		}
	}
	mustBe(t, "no lower layer", nodes.Lower(api.Stack{Upper: branch(100, 4)}, api.Place{Layer: 1, Ino: 1}), 0)
}
