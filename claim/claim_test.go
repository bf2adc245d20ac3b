package claim_test

import (
	"math"
	"math/rand"
	"slices"
	"testing"

	"craquelure/api"
	"craquelure/claim"
)

// five is the pointers of an inode: those of Ptr, and Attr.
type five = [5]int

// with is inodes with these pointers; their kinds go through all that there are, Free the first.
func with(l ...five) []api.Inode {
	var inodes []api.Inode
	for i, p := range l {
		inodes = append(inodes, api.Inode{Kind: i % 5, Ptr: [4]int(p[:4]), Attr: p[4]})
	}
	return inodes
}

// flat is all pointers of l, one behind the other.
func flat(l []api.Inode) []int {
	var all []int
	for _, x := range l {
		all = append(append(all, x.Ptr[:]...), x.Attr)
	}
	return all
}

// counts tells of the pointer at place i of all, by the chapter's words.
func counts(all []int, blocks, i int) bool {
	return all[i] >= 1 && all[i] <= blocks && !slices.Contains(all[:i], all[i])
}

func bad(l []api.Inode, blocks int) [][2]int {
	var want [][2]int
	all := flat(l)
	for i, n := range all {
		if n != 0 && !counts(all, blocks, i) {
			want = append(want, [2]int{i/5 + 1, i % 5})
		}
	}
	return want
}

func used(l []api.Inode, blocks int) []bool {
	if blocks < 1 || blocks > 512 {
		return nil
	}
	want := make([]bool, blocks)
	all := flat(l)
	for i, n := range all {
		if counts(all, blocks, i) {
			want[n-1] = true
		}
	}
	return want
}

func owner(l []api.Inode, blocks, block int) (int, int, bool) {
	all := flat(l)
	for i, n := range all {
		if counts(all, blocks, i) && n-1 == block {
			return i/5 + 1, i % 5, true
		}
	}
	return 0, 0, false
}

// strange is numbers that lie far off, and at the ends of what an int can hold.
func strange() []int {
	return []int{math.MinInt, math.MinInt + 1, -1 << 32, -65536, -2, -1, 65535, 65536, 1<<32 + 1, math.MaxInt - 1, math.MaxInt}
}

// mustTell holds all calls against the chapter's words.
func mustTell(t *testing.T, l []api.Inode, blocks int) {
	t.Helper()
	all := flat(l)
	for ino := -1; ino <= len(l)+2; ino++ {
		for k := -2; k <= 6; k++ {
			want := ino >= 1 && ino <= len(l) && k >= 0 && k <= 4 && counts(all, blocks, 5*(ino-1)+k)
			if got := claim.Valid(l, blocks, ino, k); got != want {
				t.Errorf("Valid(%v, %d, %d, %d): %v", l, blocks, ino, k, got)
			}
		}
	}
	if got := claim.Bad(l, blocks); !slices.Equal(got, bad(l, blocks)) {
		t.Errorf("Bad(%v, %d): %v", l, blocks, got)
	}
	if got := claim.Used(l, blocks); !slices.Equal(got, used(l, blocks)) {
		t.Errorf("Used(%v, %d): %v", l, blocks, got)
	}
	asked := append(strange(), 0, 1, 2, 3, 4, 5, 6, 7, blocks-2, blocks-1, blocks, blocks+1)
	for _, n := range all {
		asked = append(asked, n-1, n)
	}
	for _, block := range asked {
		ino, k, ok := owner(l, blocks, block)
		if i, j, there := claim.Owner(l, blocks, block); i != ino || j != k || there != ok {
			t.Errorf("Owner(%v, %d, %d): %d, %d, %v", l, blocks, block, i, j, there)
		}
	}
}

func mustBeBad(t *testing.T, why string, l []api.Inode, blocks int, want ...[2]int) {
	t.Helper()
	if got := claim.Bad(l, blocks); !slices.Equal(got, want) {
		t.Errorf("%s: Bad: %v", why, got)
	}
	mustTell(t, l, blocks)
}

// The chapter's example.
func TestExample(t *testing.T) {
	l := with(five{1}, five{1})
	mustBeBad(t, "two inodes with Ptr 1", l, 5, [2]int{2, 0})
	if !claim.Valid(l, 5, 1, 0) || claim.Valid(l, 5, 2, 0) {
		t.Error("the first one does not count, or the second one does")
	}
}

// P11.1: pointers of 0, 1, blocks and one beyond it, and below 0.
func TestBounds(t *testing.T) {
	for _, c := range []struct {
		n, blocks int
		want      bool
	}{
		{0, 1, false}, {1, 1, true}, {2, 1, false}, {-1, 1, false},
		{1, 5, true}, {4, 5, true}, {5, 5, true}, {6, 5, false}, {-5, 5, false},
		{0, 0, false}, {1, 0, false}, {-1, 0, false}, {-1, -1, false}, {-3, -2, false},
		{512, 512, true}, {513, 512, false}, {513, 513, true}, {65535, 60, false}, {65535, 65535, true},
		{math.MaxInt, math.MaxInt, true}, {math.MaxInt, math.MaxInt - 1, false},
		{math.MinInt, math.MaxInt, false}, {math.MinInt, math.MinInt, false}, {1, math.MinInt, false},
	} {
		for k := range 5 {
			var p five
			p[k] = c.n
			l := with(five{}, p)
			if got := claim.Valid(l, c.blocks, 2, k); got != c.want {
				t.Errorf("pointer %d that is %d, of %d blocks: %v", k, c.n, c.blocks, got)
			}
			if ino, j, ok := claim.Owner(l, c.blocks, c.n-1); ok != c.want || ok && (ino != 2 || j != k) {
				t.Errorf("owner by pointer %d that is %d, of %d blocks: %d, %d, %v", k, c.n, c.blocks, ino, j, ok)
			}
			var want [][2]int
			if c.n != 0 && !c.want {
				want = append(want, [2]int{2, k})
			}
			mustBeBad(t, "one pointer", l, c.blocks, want...)
		}
	}
}

// P11.1: a block that is named twice: by one inode, by two, by Ptr and by Attr.
func TestNamedTwice(t *testing.T) {
	mustBeBad(t, "twice by one inode", with(five{3, 0, 3}), 4, [2]int{1, 2})
	mustBeBad(t, "all pointers of one inode", with(five{2, 2, 2, 2, 2}), 4, [2]int{1, 1}, [2]int{1, 2}, [2]int{1, 3}, [2]int{1, 4})
	mustBeBad(t, "Ptr and Attr of one inode", with(five{0, 0, 0, 1, 1}), 4, [2]int{1, 4})
	mustBeBad(t, "Attr, and Ptr of a later inode", with(five{0, 0, 0, 0, 1}, five{1}), 4, [2]int{2, 0})
	mustBeBad(t, "Ptr, and Attr of a later inode", with(five{1}, five{0, 0, 0, 0, 1}), 4, [2]int{2, 4})
	mustBeBad(t, "a later pointer of an earlier inode", with(five{0, 0, 0, 4}, five{4}), 4, [2]int{2, 0})
	mustBeBad(t, "three inodes", with(five{0, 2}, five{2}, five{0, 0, 2}), 4, [2]int{2, 0}, [2]int{3, 2})
	mustBeBad(t, "one beyond all blocks twice", with(five{5, 5}), 4, [2]int{1, 0}, [2]int{1, 1})
	mustBeBad(t, "one below 0 twice", with(five{-1, -1}, five{-1}), 4, [2]int{1, 0}, [2]int{1, 1}, [2]int{2, 0})
	mustBeBad(t, "0 often", with(five{}, five{}, five{}), 4)
	mustBeBad(t, "each block once", with(five{1, 2, 3, 4, 5}, five{6, 7, 8, 9, 10}), 10)
	mustBeBad(t, "no inodes", nil, 4)
}

// P11.1: inodes of all kinds are asked, those of Kind Free too, and those of kinds that there are not.
func TestKinds(t *testing.T) {
	for _, kind := range []int{math.MinInt, -1, api.Free, api.Dir, api.File, api.Link, api.White, 5, math.MaxInt} {
		l := []api.Inode{{Kind: kind, Ptr: [4]int{2}, Attr: 1}, {Kind: api.File, Size: 64, Nlink: 1, Ptr: [4]int{1, 3}, Attr: 2}}
		mustBeBad(t, "pointers of an inode ahead", l, 3, [2]int{2, 0}, [2]int{2, 4})
		l[0], l[1] = l[1], l[0]
		mustBeBad(t, "pointers of an inode behind", l, 3, [2]int{2, 0}, [2]int{2, 4})
	}
}

// P11.2: inodes and pointers that there are not.
func TestThereIsNone(t *testing.T) {
	l := with(five{1, 2, 3, 4, 5}, five{6, 7, 8, 9, 10})
	off := append(strange(), 0, 3, 4, 5, 6)
	for _, ino := range off {
		for k := -1; k <= 5; k++ {
			if claim.Valid(l, 10, ino, k) {
				t.Errorf("inode %d, pointer %d", ino, k)
			}
		}
	}
	for _, k := range append(strange(), 5, 6, 7, 10) {
		for ino := 0; ino <= 3; ino++ {
			if claim.Valid(l, 10, ino, k) {
				t.Errorf("inode %d, pointer %d", ino, k)
			}
		}
	}
	for k := range 5 {
		if !claim.Valid(l, 10, 1, k) || !claim.Valid(l, 10, 2, k) || claim.Valid(nil, 10, 1, k) {
			t.Errorf("pointer %d", k)
		}
	}
}

// P11.2: Used of 0, 1, 512 and 513 blocks, below 0, and of far more.
func TestUsedBlocks(t *testing.T) {
	l := with(five{1, 512, 513, 0, 1}, five{-1, 2, 65535, 512, 511})
	for _, blocks := range append(strange(), 0, 513, 514, 1024) {
		if got := claim.Used(l, blocks); len(got) != 0 {
			t.Errorf("%d blocks: %d", blocks, len(got))
		}
	}
	for _, blocks := range []int{1, 2, 3, 60, 511, 512} {
		want := make([]bool, blocks)
		for _, n := range []int{1, 2, 511, 512} {
			if n <= blocks {
				want[n-1] = true
			}
		}
		if got := claim.Used(l, blocks); !slices.Equal(got, want) {
			t.Errorf("%d blocks: %v", blocks, got)
		}
		if got := claim.Used(nil, blocks); !slices.Equal(got, make([]bool, blocks)) {
			t.Errorf("%d blocks of no inodes: %v", blocks, got)
		}
	}
}

// P11.2: more than 512 blocks, of which Used alone tells nothing.
func TestManyBlocks(t *testing.T) {
	for _, blocks := range []int{513, 65535, 1 << 40, math.MaxInt} {
		l := with(five{513, blocks, 1, 513}, five{blocks, 512})
		mustBeBad(t, "many blocks", l, blocks, bad(l, blocks)...)
		if ino, k, ok := claim.Owner(l, blocks, 512); ino != 1 || k != 0 || !ok {
			t.Errorf("%d blocks: the owner of block 512: %d, %d, %v", blocks, ino, k, ok)
		}
	}
}

// P11.1, P11.2: all pairs of two inodes' pointers, with pointers that name a block, and some that do not.
func TestAllSmall(t *testing.T) {
	values := []int{-1, 0, 1, 2, 3}
	for i := range 5 * 5 * 5 * 5 {
		a, b, c, d := values[i%5], values[i/5%5], values[i/25%5], values[i/125]
		for _, blocks := range []int{-1, 0, 1, 2, 3} {
			mustTell(t, with(five{a, 0, b}, five{0, c, 0, 0, d}), blocks)
			mustTell(t, with(five{a, b, c, d}), blocks)
			mustTell(t, with(five{0, 0, 0, 0, a}, five{}, five{b, 0, 0, 0, c}, five{d}), blocks)
		}
	}
}

// someInodes is inodes with pointers around the blocks.
func someInodes(r *rand.Rand, n, blocks int) []api.Inode {
	var l []five
	for range n {
		var p five
		for k := range p {
			switch r.Intn(8) {
			case 0:
				p[k] = strange()[r.Intn(len(strange()))]
			case 1:
				p[k] = blocks + r.Intn(3)
			case 2, 3, 4, 5:
				p[k] = 1 + r.Intn(max(1, blocks))
			}
		}
		l = append(l, p)
	}
	return with(l...)
}

// P11.1, P11.2: many inodes, as a layer may have them, and more.
func TestMany(t *testing.T) {
	r := rand.New(rand.NewSource(1))
	for range 400 {
		blocks := []int{1, 4, 16, 60, 61, 512, 513}[r.Intn(7)]
		mustTell(t, someInodes(r, r.Intn(40), blocks), blocks)
	}
}

// P11.3: each block has one Owner at most; those that have one are Used; all pointers that are not 0 are bad, or own a block.
func TestOneOwner(t *testing.T) {
	r := rand.New(rand.NewSource(2))
	for range 200 {
		blocks := 1 + r.Intn(60)
		l := someInodes(r, r.Intn(30), blocks)
		owners := map[[2]int]int{}
		for block, taken := range claim.Used(l, blocks) {
			ino, k, ok := claim.Owner(l, blocks, block)
			if ok != taken || ok != (ino != 0) {
				t.Errorf("block %d of %v: used %v, owner %d, %d, %v", block, l, taken, ino, k, ok)
			}
			if !ok {
				continue
			}
			owners[[2]int{ino, k}]++
			if !claim.Valid(l, blocks, ino, k) || flat(l)[5*(ino-1)+k] != block+1 {
				t.Errorf("block %d of %v: its owner %d, %d does not count", block, l, ino, k)
			}
		}
		for _, p := range claim.Bad(l, blocks) {
			owners[p]++
		}
		for i, n := range flat(l) {
			if got := owners[[2]int{i/5 + 1, i % 5}]; (n == 0) != (got == 0) || got > 1 {
				t.Errorf("pointer %d of inode %d of %v: told %d times", i%5, i/5+1, l, got)
			}
		}
	}
}

// The answers share no memory, and what was handed in stays as it is.
func TestAnswersShareNothing(t *testing.T) {
	l := with(five{1, 1, 9}, five{2, -1})
	before := slices.Clone(l)
	badOnes, taken := claim.Bad(l, 3), claim.Used(l, 3)
	clear(badOnes[:cap(badOnes)])
	clear(taken[:cap(taken)])
	if !slices.Equal(l, before) {
		t.Error("what was handed in is changed")
	}
	mustBeBad(t, "again", l, 3, [2]int{1, 1}, [2]int{1, 2}, [2]int{2, 1})
	kept := claim.Used(l, 3)
	l[0].Ptr[0] = 3
	if !slices.Equal(kept, []bool{true, true, false}) {
		t.Errorf("Used changes with what was handed in: %v", kept)
	}
}
