package name_test

import (
	"bytes"
	"regexp"
	"slices"
	"strings"
	"testing"

	"craquelure/name"
)

const size = 14

// pattern is the letters of a right name, and how many there may be.
var pattern = regexp.MustCompile(`\A[a-z0-9._-]{1,12}\z`)

func right(s string) bool {
	return pattern.MatchString(s) && s != "." && s != ".."
}

// someStrings is strings of all lengths around the greatest one, right and wrong ones.
func someStrings() []string {
	l := []string{".", "..", "...", "....", ".a", "a.", "..a", ". ", " .", "a b", "a/b", "/", "A", "aB", "é", "aé", "\u212a", "\ufffd", "\xff", "a\xff", "\x00", "a\x00", "\x00a", "a-1", "_", "-", "-_.-", "lost_found", "0", "09", "a..b"}
	for n := range 17 {
		l = append(l, strings.Repeat("a", n), strings.Repeat(".", n), strings.Repeat("A", n), "abcdefghijklmnopq"[:n], "9876543210._-zyxw"[:n])
	}
	return append(l, strings.Repeat("a", 255), strings.Repeat("a", 256), strings.Repeat("a", 257), strings.Repeat("a", 268), strings.Repeat("a", 1<<16+1))
}

// wire is the bytes of a right name.
func wire(s string) []byte {
	l := append([]byte{byte(len(s))}, s...)
	return append(l, make([]byte, size-len(l))...)
}

// P3.1: 1 to 12 bytes, and neither "." nor "..".
func TestRightEdges(t *testing.T) {
	for s, want := range map[string]bool{
		"":               false,
		"a":              true,
		"abcdefghijkl":   true,
		"abcdefghijklm":  false,
		"............":   true,
		".............":  false,
		".":              false,
		"..":             false,
		"...":            true,
		".a":             true,
		"a.":             true,
		"..a":            true,
		"-":              true,
		"_":              true,
		"a-1":            true,
		"A":              false,
		"a b":            false,
		"a/b":            false,
		"/a":             false,
		"a\x00":          false,
		"é":              false,
		"\ufffd":         false,
		"\xff":           false,
		"abcdefghijkl\n": false,
	} {
		if got := name.Right(s); got != want {
			t.Errorf("Right(%q): %v", s, got)
		}
	}
}

// P3.1: each byte, alone, ahead of others, among them, and behind them.
func TestRightBytes(t *testing.T) {
	for x := range 256 {
		c := string([]byte{byte(x)})
		allowed := strings.Contains("abcdefghijklmnopqrstuvwxyz0123456789._-", c)
		for _, s := range []string{c, c + "a", "a" + c, "a" + c + "b", "abcdefghijk" + c, c + "abcdefghijk"} {
			if got := name.Right(s); got != (allowed && s != ".") {
				t.Errorf("Right(%q): %v", s, got)
			}
		}
		if name.Right("abcdefghijkl" + c) {
			t.Errorf("13 bytes, the last one %d, are right", x)
		}
	}
}

// P3.1: right and wrong strings of all lengths.
func TestRight(t *testing.T) {
	for _, s := range someStrings() {
		if got := name.Right(s); got != right(s) {
			t.Errorf("Right(%.20q) of %d bytes: %v", s, len(s), got)
		}
	}
}

// P3.1: how many bytes, these, and bytes 0.
func TestPackExamples(t *testing.T) {
	for s, want := range map[string][]byte{
		"a":            {1, 97, 0, 0, 0, 0, 0, 0, 0, 0, 0, 0, 0, 0},
		"...":          {3, 46, 46, 46, 0, 0, 0, 0, 0, 0, 0, 0, 0, 0},
		"z9._-":        {5, 122, 57, 46, 95, 45, 0, 0, 0, 0, 0, 0, 0, 0},
		"abcdefghijk":  {11, 97, 98, 99, 100, 101, 102, 103, 104, 105, 106, 107, 0, 0},
		"abcdefghijkl": {12, 97, 98, 99, 100, 101, 102, 103, 104, 105, 106, 107, 108, 0},
	} {
		if got := name.Pack(s); !bytes.Equal(got, want) {
			t.Errorf("Pack(%q): %v", s, got)
		}
	}
}

// P3.1: of a string that is not right there is nothing.
func TestPack(t *testing.T) {
	for _, s := range someStrings() {
		var want []byte
		if right(s) {
			want = wire(s)
		}
		if got := name.Pack(s); !bytes.Equal(got, want) {
			t.Errorf("Pack(%.20q) of %d bytes: %v", s, len(s), got)
		}
	}
}

// P3.1: bytes that are no right name's.
func TestUnpackWrong(t *testing.T) {
	for what, b := range map[string][]byte{
		"nothing":                      nil,
		"no byte":                      {},
		"one byte":                     {1},
		"bytes 0":                      make([]byte, size),
		"bytes 255":                    bytes.Repeat([]byte{255}, size),
		"no name, and a byte":          {0, 97, 0, 0, 0, 0, 0, 0, 0, 0, 0, 0, 0, 0},
		"a name that is longer":        {1, 97, 98, 0, 0, 0, 0, 0, 0, 0, 0, 0, 0, 0},
		"a name that is shorter":       {2, 97, 0, 0, 0, 0, 0, 0, 0, 0, 0, 0, 0, 0},
		"a byte far behind the name":   {1, 97, 0, 0, 0, 0, 0, 0, 0, 0, 0, 0, 0, 1},
		"a byte behind 12":             {12, 97, 97, 97, 97, 97, 97, 97, 97, 97, 97, 97, 97, 1},
		"a letter behind 12":           {12, 97, 97, 97, 97, 97, 97, 97, 97, 97, 97, 97, 97, 97},
		"a name of 13":                 {13, 97, 97, 97, 97, 97, 97, 97, 97, 97, 97, 97, 97, 97},
		"a name of 14":                 {14, 97, 97, 97, 97, 97, 97, 97, 97, 97, 97, 97, 97, 97},
		"a name of 255":                {255, 97, 97, 97, 97, 97, 97, 97, 97, 97, 97, 97, 97, 97},
		"one dot":                      {1, 46, 0, 0, 0, 0, 0, 0, 0, 0, 0, 0, 0, 0},
		"two dots":                     {2, 46, 46, 0, 0, 0, 0, 0, 0, 0, 0, 0, 0, 0},
		"a great letter":               {1, 65, 0, 0, 0, 0, 0, 0, 0, 0, 0, 0, 0, 0},
		"a slash":                      {3, 97, 47, 98, 0, 0, 0, 0, 0, 0, 0, 0, 0, 0},
		"13 bytes":                     wire("a")[:13],
		"15 bytes":                     append(wire("a"), 0),
		"13 bytes of a whole name":     wire("abcdefghijkl")[:13],
		"a name twice":                 append(wire("a"), wire("a")...),
		"a name behind another length": append([]byte{0}, wire("a")...),
	} {
		if s, ok := name.Unpack(b); s != "" || ok {
			t.Errorf("%s: %q, %v", what, s, ok)
		}
	}
}

// P3.1: of 14 bytes alone there is a name.
func TestUnpackLengths(t *testing.T) {
	for _, s := range []string{"a", "abcdefghijkl"} {
		long := append(wire(s), make([]byte, 20)...)
		for n := range len(long) {
			if got, ok := name.Unpack(long[:n]); ok != (n == size) || ok && got != s || !ok && got != "" {
				t.Errorf("the first %d bytes of %q: %q, %v", n, s, got, ok)
			}
		}
	}
}

// P3.1, P3.2: each byte of a packed name, changed to each other value: just what is a right name's is unpacked.
func TestUnpackChanged(t *testing.T) {
	for _, s := range []string{"a", "..a", "ab", "...", "abcdefghijk", "abcdefghijkl"} {
		for at := range size {
			for x := range 256 {
				b := wire(s)
				b[at] = byte(x)
				want := ""
				if n := int(b[0]); n <= 12 && right(string(b[1:1+n])) && bytes.Equal(b, wire(string(b[1:1+n]))) {
					want = string(b[1 : 1+n])
				}
				if got, ok := name.Unpack(b); got != want || ok != (want != "") {
					t.Fatalf("Unpack(%v): %q, %v", b, got, ok)
				}
			}
		}
	}
}

// P3.2: what was packed is unpacked.
func TestUnpackOfPack(t *testing.T) {
	for _, s := range someStrings() {
		if !right(s) {
			continue
		}
		if got, ok := name.Unpack(name.Pack(s)); got != s || !ok {
			t.Errorf("%q: %q, %v", s, got, ok)
		}
	}
}

// P3.2: bytes that are unpacked are those that are packed.
func TestPackOfUnpack(t *testing.T) {
	for n := range 16 {
		for x := range 256 {
			for y := range 256 {
				b := make([]byte, size)
				b[0], b[1], b[2] = byte(n), byte(x), byte(y)
				s, ok := name.Unpack(b)
				if ok && !bytes.Equal(name.Pack(s), b) {
					t.Fatalf("Pack of %q, of %v: %v", s, b, name.Pack(s))
				}
				if !ok && s != "" {
					t.Fatalf("%v: %q, and false", b, s)
				}
			}
		}
	}
}

// P3.1: each once, rising byte by byte.
func TestSortExamples(t *testing.T) {
	for _, c := range []struct{ l, want []string }{
		{nil, nil},
		{[]string{}, nil},
		{[]string{""}, []string{""}},
		{[]string{"a"}, []string{"a"}},
		{[]string{"b", "a"}, []string{"a", "b"}},
		{[]string{"a", "a"}, []string{"a"}},
		{[]string{"", "", ""}, []string{""}},
		{[]string{"b", "a", "b", "a", "b"}, []string{"a", "b"}},
		{[]string{"a", "", "a"}, []string{"", "a"}},
		{[]string{"ab", "b", "a", "aa"}, []string{"a", "aa", "ab", "b"}},
		{[]string{"a", "B", "b", "A"}, []string{"A", "B", "a", "b"}},
		{[]string{"10", "9", "1"}, []string{"1", "10", "9"}},
		{[]string{"a_", "a.", "a-", "a0", "aa"}, []string{"a-", "a.", "a0", "a_", "aa"}},
		{[]string{"\xff", "\u00e9", "z", "\x00", "\x00\x00", "\u0101", "\U0001f600", "\uffff"}, []string{"\x00", "\x00\x00", "z", "\u00e9", "\u0101", "\uffff", "\U0001f600", "\xff"}},
	} {
		if got := name.Sort(c.l); !slices.Equal(got, c.want) {
			t.Errorf("Sort(%q): %q", c.l, got)
		}
	}
}

// P3.1: all strings of the list are there, and no other; each is less than the next one.
func TestSort(t *testing.T) {
	x := uint32(7)
	for n := range 200 {
		l := make([]string, n)
		in := map[string]bool{}
		for i := range l {
			x = x*1664525 + 1013904223
			s := []byte{byte(x >> 30), byte(x >> 20), byte(x >> 12)}
			l[i] = string(s[:x>>28%4])
			in[l[i]] = true
		}
		before := slices.Clone(l)
		got := name.Sort(l)
		if !slices.Equal(l, before) {
			t.Fatalf("%d strings: the list is changed", n)
		}
		if len(got) != len(in) {
			t.Fatalf("%d strings, %d unlike: %d", n, len(in), len(got))
		}
		for i, s := range got {
			if !in[s] || i > 0 && bytes.Compare([]byte(got[i-1]), []byte(s)) >= 0 {
				t.Fatalf("Sort(%q): %q", l, got)
			}
		}
	}
}

// Sort's answer shares no memory with the list, nor with its room behind, and with no other answer; the list stays.
func TestSortSharesNothing(t *testing.T) {
	for _, whole := range [][]string{
		{"a", "b", "c", "y", "z"},
		{"c", "b", "a", "y", "z"},
		{"a", "a", "b", "y", "z"},
		{"b", "b", "b", "y", "z"},
	} {
		for n := range 4 {
			before := slices.Clone(whole)
			first, again := name.Sort(whole[:n]), name.Sort(whole[:n])
			want := slices.Clone(again)
			for i := range first[:cap(first)] {
				first[:cap(first)][i] = "other"
			}
			if !slices.Equal(whole, before) {
				t.Errorf("%q: the list is %q", before[:n], whole)
			}
			if !slices.Equal(again, want) {
				t.Errorf("%q: the other answer is %q", before[:n], again)
			}
		}
	}
}

// Pack's answers share no memory with one another; Unpack's answer none with b, which stays.
func TestPackSharesNothing(t *testing.T) {
	first, again := name.Pack("abc"), name.Pack("abc")
	for i := range first[:cap(first)] {
		first[:cap(first)][i] = 255
	}
	if !bytes.Equal(again, wire("abc")) || !bytes.Equal(name.Pack("abc"), wire("abc")) {
		t.Errorf("two answers share: %v", again)
	}
	b := append(wire("abc"), 7)
	s, ok := name.Unpack(b[:size])
	if !bytes.Equal(b, append(wire("abc"), 7)) {
		t.Errorf("Unpack changes what it is handed: %v", b)
	}
	for i := range b {
		b[i] = 255
	}
	if s != "abc" || !ok {
		t.Errorf("Unpack shares with what it is handed: %q, %v", s, ok)
	}
}
