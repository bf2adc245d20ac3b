package entry_test

import (
	"bytes"
	"encoding/binary"
	"math"
	"regexp"
	"slices"
	"strings"
	"testing"

	"craquelure/api"
	"craquelure/entry"
)

const longest = "abcdefghijkl"

// pattern is the letters of a right name, and how many there may be.
var pattern = regexp.MustCompile(`\A[a-z0-9._-]{1,12}\z`)

func right(e api.Entry) bool {
	return 0 <= e.Slot && e.Slot <= 15 && 1 <= e.Ino && e.Ino <= 65535 &&
		pattern.MatchString(e.Name) && e.Name != "." && e.Name != ".."
}

// wire is the 16 bytes of an entry that is right.
func wire(e api.Entry) []byte {
	b := binary.LittleEndian.AppendUint16(nil, uint16(e.Ino))
	b = append(append(b, byte(len(e.Name))), e.Name...)
	return append(b, make([]byte, 16-len(b))...)
}

func someSlots() []int {
	return []int{math.MinInt, -16, -4, -1, 0, 1, 2, 3, 4, 7, 8, 11, 12, 14, 15, 16, 17, 19, 64, 256, 1 << 32, math.MaxInt}
}

func someEntries() []api.Entry {
	var l []api.Entry
	names := []string{"", "a", "ab", ".", "..", "...", ".a", "A", "a/b", "a b", "a\x00", "\x00", "é", "lost_found", "09", "abcdefghijk", longest, longest + "m", strings.Repeat("z", 256), strings.Repeat("z", 257), strings.Repeat("z", 268)}
	inos := []int{math.MinInt, -65535, -1, 0, 1, 2, 255, 256, 258, 65534, 65535, 65536, 65537, 1<<32 + 1, math.MaxInt}
	for _, slot := range someSlots() {
		for _, ino := range inos {
			for _, s := range names {
				l = append(l, api.Entry{Slot: slot, Ino: ino, Name: s})
			}
		}
	}
	return l
}

// P8.1: Slot 0 to 15, Ino 1 to MaxCount, a right name.
func TestRightEdges(t *testing.T) {
	for _, c := range []struct {
		e    api.Entry
		want bool
	}{
		{api.Entry{}, false},
		{api.Entry{Slot: 0, Ino: 1, Name: "a"}, true},
		{api.Entry{Slot: 15, Ino: 1, Name: "a"}, true},
		{api.Entry{Slot: -1, Ino: 1, Name: "a"}, false},
		{api.Entry{Slot: 16, Ino: 1, Name: "a"}, false},
		{api.Entry{Slot: 3, Ino: 0, Name: "a"}, false},
		{api.Entry{Slot: 3, Ino: -1, Name: "a"}, false},
		{api.Entry{Slot: 3, Ino: 65535, Name: "a"}, true},
		{api.Entry{Slot: 3, Ino: 65536, Name: "a"}, false},
		{api.Entry{Slot: 3, Ino: 4, Name: longest}, true},
		{api.Entry{Slot: 3, Ino: 4, Name: longest + "m"}, false},
		{api.Entry{Slot: 3, Ino: 4, Name: ""}, false},
		{api.Entry{Slot: 3, Ino: 4, Name: "."}, false},
		{api.Entry{Slot: 3, Ino: 4, Name: ".."}, false},
		{api.Entry{Slot: 3, Ino: 4, Name: "..."}, true},
		{api.Entry{Slot: 3, Ino: 4, Name: "A"}, false},
		{api.Entry{Slot: 3, Ino: 4, Name: "a/b"}, false},
	} {
		if got := entry.Right(c.e); got != c.want {
			t.Errorf("Right(%v): %v", c.e, got)
		}
	}
}

// P8.1: all of these slots, inodes and names, right and wrong ones.
func TestRight(t *testing.T) {
	for _, e := range someEntries() {
		if got := entry.Right(e); got != right(e) {
			t.Errorf("Right(%.30v): %v", e, got)
		}
	}
}

// P8.1: the inode's number, and the name packed.
func TestPutExamples(t *testing.T) {
	for _, c := range []struct {
		e    api.Entry
		want []byte
	}{
		{api.Entry{Slot: 0, Ino: 258, Name: "a"}, []byte{2, 1, 1, 97, 0, 0, 0, 0, 0, 0, 0, 0, 0, 0, 0, 0}},
		{api.Entry{Slot: 15, Ino: 1, Name: "x-1"}, []byte{1, 0, 3, 120, 45, 49, 0, 0, 0, 0, 0, 0, 0, 0, 0, 0}},
		{api.Entry{Slot: 7, Ino: 65535, Name: longest}, []byte{255, 255, 12, 97, 98, 99, 100, 101, 102, 103, 104, 105, 106, 107, 108, 0}},
	} {
		if got, bad := entry.Put(c.e); bad != api.OK || !bytes.Equal(got, c.want) {
			t.Errorf("Put(%v): %v, %d", c.e, got, bad)
		}
	}
}

// P8.1: ErrArg, and no bytes, of one that is not right.
func TestPut(t *testing.T) {
	for _, e := range someEntries() {
		got, bad := entry.Put(e)
		if right(e) && (bad != api.OK || !bytes.Equal(got, wire(e))) {
			t.Errorf("Put(%v): %v, %d", e, got, bad)
		}
		if !right(e) && (bad != api.ErrArg || len(got) != 0) {
			t.Errorf("Put(%.30v): %v, %d", e, got, bad)
		}
	}
}

// mustGet wants just these three answers.
func mustGet(t *testing.T, why string, b []byte, slot int, e api.Entry, there, readable bool) {
	t.Helper()
	if x, y, z := entry.Get(b, slot); x != e || y != there || z != readable {
		t.Errorf("%s: Get(%v, %d): %v, %v, %v", why, b, slot, x, y, z)
	}
}

// P8.1: what was put is got, of each slot that there is, and of no other.
func TestGetSlots(t *testing.T) {
	b := wire(api.Entry{Ino: 300, Name: "x.y"})
	for _, slot := range someSlots() {
		if slot >= 0 && slot <= 15 {
			mustGet(t, "a slot", b, slot, api.Entry{Slot: slot, Ino: 300, Name: "x.y"}, true, true)
		} else {
			mustGet(t, "no slot", b, slot, api.Entry{}, false, false)
		}
	}
}

// P8.1: of 16 bytes 0 there is none, whatever the slot.
func TestGetNothing(t *testing.T) {
	for _, slot := range someSlots() {
		mustGet(t, "16 bytes 0", make([]byte, 16), slot, api.Entry{}, false, true)
	}
}

// P8.1: all that can be put is got.
func TestGetOfPut(t *testing.T) {
	for _, e := range someEntries() {
		if right(e) {
			mustGet(t, "what was put", wire(e), e.Slot, e, true, true)
		}
	}
}

// P8.1: any other length than 16, of bytes 0, and of an entry.
func TestGetLengths(t *testing.T) {
	mustGet(t, "nothing", nil, 0, api.Entry{}, false, false)
	for _, first := range [][]byte{make([]byte, 16), wire(api.Entry{Ino: 4, Name: "a"}), wire(api.Entry{Ino: 4, Name: longest})} {
		long := append(bytes.Clone(first), make([]byte, 50)...)
		for n := range long {
			if n != 16 {
				mustGet(t, "another length", long[:n], 3, api.Entry{}, false, false)
			}
		}
		mustGet(t, "a byte ahead", append([]byte{0}, first...), 3, api.Entry{}, false, false)
		mustGet(t, "without the first byte", first[1:], 3, api.Entry{}, false, false)
	}
}

// P8.1: bytes of which no right entry is: each of the 16 bytes alone, and others.
func TestGetWrong(t *testing.T) {
	for at := range 16 {
		for x := 1; x < 256; x++ {
			b := make([]byte, 16)
			b[at] = byte(x)
			mustGet(t, "one byte alone", b, 3, api.Entry{}, false, false)
		}
	}
	for why, b := range map[string][]byte{
		"Ino 0":                  {0, 0, 1, 97, 0, 0, 0, 0, 0, 0, 0, 0, 0, 0, 0, 0},
		"no name":                {4, 0, 0, 0, 0, 0, 0, 0, 0, 0, 0, 0, 0, 0, 0, 0},
		"a name .":               {4, 0, 1, 46, 0, 0, 0, 0, 0, 0, 0, 0, 0, 0, 0, 0},
		"a name ..":              {4, 0, 2, 46, 46, 0, 0, 0, 0, 0, 0, 0, 0, 0, 0, 0},
		"a name A":               {4, 0, 1, 65, 0, 0, 0, 0, 0, 0, 0, 0, 0, 0, 0, 0},
		"a name with a byte 0":   {4, 0, 2, 97, 0, 0, 0, 0, 0, 0, 0, 0, 0, 0, 0, 0},
		"a byte behind the name": {4, 0, 1, 97, 98, 0, 0, 0, 0, 0, 0, 0, 0, 0, 0, 0},
		"the last byte":          {4, 0, 1, 97, 0, 0, 0, 0, 0, 0, 0, 0, 0, 0, 0, 1},
		"a name of 13 bytes":     {4, 0, 13, 97, 97, 97, 97, 97, 97, 97, 97, 97, 97, 97, 97, 97},
		"a length of 255":        {4, 0, 255, 97, 97, 97, 97, 97, 97, 97, 97, 97, 97, 97, 97, 97},
		"bytes 255":              bytes.Repeat([]byte{255}, 16),
	} {
		for _, slot := range []int{-1, 0, 3, 15, 16} {
			mustGet(t, why, b, slot, api.Entry{}, false, false)
		}
	}
}

// P8.1: each byte of an entry changed to each other value: what is got is what that is Put of.
func TestGetChanged(t *testing.T) {
	for _, first := range [][]byte{wire(api.Entry{Ino: 4, Name: "a"}), wire(api.Entry{Ino: 1, Name: "ab.-"}), wire(api.Entry{Ino: 65535, Name: longest})} {
		b := bytes.Clone(first)
		for at := range b {
			for x := range 256 {
				b[at] = byte(x)
				e := api.Entry{Slot: 9, Ino: int(b[0]) | int(b[1])<<8}
				if b[2] <= 12 {
					e.Name = string(b[3 : 3+b[2]])
				}
				if right(e) && bytes.Equal(wire(e), b) {
					mustGet(t, "another entry", b, 9, e, true, true)
				} else {
					mustGet(t, "a byte changed", b, 9, api.Entry{}, false, false)
				}
			}
			b[at] = first[at]
		}
	}
}

// block is entry by entry, or nil, 16 bytes each.
func block(l ...*api.Entry) []byte {
	b := make([]byte, 64)
	for i, e := range l {
		if e != nil {
			copy(b[16*i:], wire(*e))
		}
	}
	return b
}

func mustBlock(t *testing.T, why string, l []api.Entry, k int, want []byte) {
	t.Helper()
	if got := entry.Block(l, k); !bytes.Equal(got, want) {
		t.Errorf("%s: Block(%v, %d): %v", why, l, k, got)
	}
}

// P8.2: the entries of the block's slots, wherever they stand in the list.
func TestBlock(t *testing.T) {
	a, b := api.Entry{Slot: 1, Ino: 4, Name: "x"}, api.Entry{Slot: 9, Ino: 5, Name: longest}
	c, d := api.Entry{Slot: 8, Ino: 65535, Name: "y"}, api.Entry{Slot: 15, Ino: 1, Name: "z"}
	l := []api.Entry{d, b, a, c}
	mustBlock(t, "slots 0 to 3", l, 0, block(nil, &a))
	mustBlock(t, "slots 4 to 7", l, 1, block())
	mustBlock(t, "slots 8 to 11", l, 2, block(&c, &b))
	mustBlock(t, "slots 12 to 15", l, 3, block(nil, nil, nil, &d))
	for k := range 4 {
		mustBlock(t, "no entries", nil, k, make([]byte, 64))
	}
}

// P8.2: of two entries of one slot the first one; of those that are not right none, also where one stands first.
func TestBlockFirstThatIsRight(t *testing.T) {
	a, b := api.Entry{Slot: 2, Ino: 4, Name: "x"}, api.Entry{Slot: 2, Ino: 5, Name: "y"}
	mustBlock(t, "two of one slot", []api.Entry{a, b}, 0, block(nil, nil, &a))
	mustBlock(t, "two of one slot", []api.Entry{b, a}, 0, block(nil, nil, &b))
	mustBlock(t, "three of one slot", []api.Entry{b, a, b}, 0, block(nil, nil, &b))
	for _, wrong := range []api.Entry{{Slot: 2}, {Slot: 2, Ino: 4}, {Slot: 2, Name: "x"}, {Slot: 2, Ino: 65536, Name: "x"}, {Slot: 2, Ino: -1, Name: "x"}, {Slot: 2, Ino: 4, Name: longest + "m"}, {Slot: 2, Ino: 4, Name: ".."}} {
		mustBlock(t, "one that isn't right ahead", []api.Entry{wrong, a, b}, 0, block(nil, nil, &a))
		mustBlock(t, "one that isn't right behind", []api.Entry{b, wrong}, 0, block(nil, nil, &b))
		mustBlock(t, "one that isn't right alone", []api.Entry{wrong, wrong}, 0, make([]byte, 64))
	}
}

// strangeBlocks is numbers of blocks that a directory has not; four times the last ones run over the greatest int.
func strangeBlocks() []int {
	return []int{math.MinInt, -1 << 62, -16, -4, -3, -1, 4, 5, 15, 16, 1 << 32, 1<<62 - 1, 1 << 62, 1<<62 + 1, -1<<62 + 3, math.MaxInt}
}

// P8.2: of a block that a directory has not 64 bytes 0: no right entry has one of its slots.
func TestBlockThereIsNone(t *testing.T) {
	var l []api.Entry
	for slot := -20; slot < 40; slot++ {
		l = append(l, api.Entry{Slot: slot, Ino: 4, Name: "x"})
	}
	l = append(l, api.Entry{Slot: math.MinInt, Ino: 4, Name: "x"}, api.Entry{Slot: math.MaxInt, Ino: 4, Name: "x"})
	for _, k := range strangeBlocks() {
		mustBlock(t, "no block", l, k, make([]byte, 64))
	}
}

func mustParse(t *testing.T, why string, b []byte, k int, want []api.Entry, slots []int) {
	t.Helper()
	if l, bad := entry.Parse(b, k); !slices.Equal(l, want) || !slices.Equal(bad, slots) {
		t.Errorf("%s: Parse(%v, %d): %v, %v", why, b, k, l, bad)
	}
}

// P8.2: slot by slot all entries, and the slots that are not to be read.
func TestParse(t *testing.T) {
	mixed := slices.Concat(wire(api.Entry{Ino: 4, Name: "x"}), append(make([]byte, 15), 1), make([]byte, 16), wire(api.Entry{Ino: 65535, Name: longest}))
	wrong := bytes.Repeat([]byte{255}, 64)
	same := bytes.Repeat(wire(api.Entry{Ino: 4, Name: "x"}), 4)
	for k := range 4 {
		s := 4 * k
		mustParse(t, "an entry, a bad slot, nothing, an entry", mixed, k,
			[]api.Entry{{Slot: s, Ino: 4, Name: "x"}, {Slot: s + 3, Ino: 65535, Name: longest}}, []int{s + 1})
		mustParse(t, "nothing", make([]byte, 64), k, nil, nil)
		mustParse(t, "nothing to be read", wrong, k, nil, []int{s, s + 1, s + 2, s + 3})
		mustParse(t, "four of one name", same, k,
			[]api.Entry{{Slot: s, Ino: 4, Name: "x"}, {Slot: s + 1, Ino: 4, Name: "x"}, {Slot: s + 2, Ino: 4, Name: "x"}, {Slot: s + 3, Ino: 4, Name: "x"}}, nil)
		for at := range 64 {
			b := make([]byte, 64)
			b[at] = 1
			mustParse(t, "one byte alone", b, k, nil, []int{s + at/16})
		}
	}
}

// P8.2: nothing of a block that a directory has not, and of other lengths than 64.
func TestParseThereIsNone(t *testing.T) {
	long := append(bytes.Repeat(wire(api.Entry{Ino: 4, Name: "x"}), 4), bytes.Repeat([]byte{255}, 80)...)
	for _, k := range strangeBlocks() {
		mustParse(t, "no block", long[:64], k, nil, nil)
		mustParse(t, "no block", long[80:], k, nil, nil)
	}
	for k := range 4 {
		mustParse(t, "no bytes", nil, k, nil, nil)
		for n := range long {
			if n != 64 {
				mustParse(t, "another length", long[:n], k, nil, nil)
			}
		}
	}
}

// P8.2: the 16 bytes of the slot are 0, all others as they were.
func TestClear(t *testing.T) {
	full := bytes.Repeat([]byte{0xa5}, 64)
	for slot := range 16 {
		want := bytes.Clone(full)
		copy(want[16*(slot%4):], make([]byte, 16))
		if got := entry.Clear(full, slot); !bytes.Equal(got, want) {
			t.Errorf("Clear of slot %d: %v", slot, got)
		}
		if got := entry.Clear(want, slot); !bytes.Equal(got, want) {
			t.Errorf("Clear of slot %d again: %v", slot, got)
		}
	}
}

// P8.2: as it is, of a slot that there is not, and of other lengths than 64.
func TestClearNothing(t *testing.T) {
	long := bytes.Repeat([]byte{0xa5}, 130)
	for _, slot := range someSlots() {
		for n := range long {
			if n == 64 && slot >= 0 && slot <= 15 {
				continue
			}
			if got := entry.Clear(long[:n], slot); !bytes.Equal(got, long[:n]) {
				t.Errorf("Clear of %d bytes, slot %d: %v", n, slot, got)
			}
		}
		if got := entry.Clear(nil, slot); len(got) != 0 {
			t.Errorf("Clear of nothing, slot %d: %v", slot, got)
		}
	}
	for slot := -20; slot < 40; slot++ {
		if got := entry.Clear(long[:64], slot); (slot < 0 || slot > 15) && !bytes.Equal(got, long[:64]) {
			t.Errorf("Clear of slot %d: %v", slot, got)
		}
	}
}

// P8.3: Parse of Block tells the entries again, and no bad slot; Clear of each takes just that one away.
func TestParseOfBlock(t *testing.T) {
	names := []string{"a", "b.c", "-", "...", longest, "x_9", "same", "same"}
	for set := range 1 << 8 {
		k := set % 4
		var l, want []api.Entry
		for i := range 8 { // the upper four bits put entries of another block among them
			if set>>i&1 == 0 {
				continue
			}
			e := api.Entry{Slot: 4*k + i%4, Ino: 1 + 9362*i, Name: names[i]}
			if i < 4 {
				want = append(want, e)
			} else {
				e.Slot = (e.Slot + 4) % 16
			}
			l = append([]api.Entry{e}, l...)
		}
		b := entry.Block(l, k)
		mustParse(t, "a block", b, k, want, nil)
		for i, e := range want {
			mustParse(t, "one less", entry.Clear(b, e.Slot), k, slices.Delete(slices.Clone(want), i, i+1), nil)
		}
	}
}

// P8.3: a whole directory, block by block.
func TestWholeDirectory(t *testing.T) {
	var l, got []api.Entry
	for slot := range 16 {
		l = append(l, api.Entry{Slot: slot, Ino: 4 + slot, Name: longest[:1+slot%12]})
	}
	for k := range 4 {
		part, bad := entry.Parse(entry.Block(l, k), k)
		if len(bad) != 0 {
			t.Errorf("block %d: bad slots %v", k, bad)
		}
		got = append(got, part...)
	}
	if !slices.Equal(got, l) {
		t.Errorf("Parse of all blocks: %v", got)
	}
}

// spoil changes all bytes of b, and of the room behind it.
func spoil(b []byte) {
	b = b[:cap(b)]
	for i := range b {
		b[i] ^= 0xff
	}
}

// The answers share no memory with what was handed in, nor with each other, and what was handed in stays as it is.
func TestAnswersShareNothing(t *testing.T) {
	l := []api.Entry{{Slot: 1, Ino: 4, Name: "x"}, {Slot: 2, Ino: 5, Name: "y"}}
	whole := append(block(nil, &l[0], &l[1]), bytes.Repeat([]byte{7}, 64)...)
	before := bytes.Clone(whole)
	for why, call := range map[string]func() []byte{
		"Put":                     func() []byte { b, _ := entry.Put(l[0]); return b },
		"Block":                   func() []byte { return entry.Block(l, 0) },
		"Block of none":           func() []byte { return entry.Block(l, 4) },
		"Clear":                   func() []byte { return entry.Clear(whole[:64], 1) },
		"Clear of no slot":        func() []byte { return entry.Clear(whole[:64], 16) },
		"Clear of another length": func() []byte { return entry.Clear(whole[:63], 1) },
	} {
		first, second := call(), call()
		want := bytes.Clone(first)
		spoil(second)
		if !bytes.Equal(first, want) || !bytes.Equal(call(), want) {
			t.Errorf("%s: two answers share", why)
		}
		if !bytes.Equal(whole, before) {
			t.Errorf("%s: what was handed in is changed", why)
		}
	}
	x, bad := entry.Parse(whole[:64], 0)
	whole[16], whole[20] = 9, 9
	if !slices.Equal(x, l) || len(bad) != 0 {
		t.Errorf("Parse shares with what was handed in: %v, %v", x, bad)
	}
	x[0] = api.Entry{}
	if y, _ := entry.Parse(before[:64], 0); !slices.Equal(y, l) {
		t.Errorf("two answers of Parse share: %v", y)
	}
	if l[0].Name != "x" || l[1].Name != "y" {
		t.Errorf("the list is changed: %v", l)
	}
}
