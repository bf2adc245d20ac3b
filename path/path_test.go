package path_test

import (
	"regexp"
	"slices"
	"strings"
	"testing"

	"craquelure/path"
)

// pattern is the letters of a right name, and how many there may be.
var pattern = regexp.MustCompile(`\A[a-z0-9._-]{1,12}\z`)

func right(s string) bool {
	return pattern.MatchString(s) && s != "." && s != ".."
}

// split is the names between the slashes, if there are such.
func split(s string) ([]string, bool) {
	if s == "/" {
		return nil, true
	}
	l := strings.Split(s, "/")
	if l[0] != "" || len(l) == 1 {
		return nil, false
	}
	for _, x := range l[1:] {
		if !right(x) {
			return nil, false
		}
	}
	return l[1:], true
}

// clean takes away from the right what is to be left out: a ".." takes the next name that no other took.
func clean(s string) (string, bool) {
	parts := strings.Split(s, "/")
	if parts[0] != "" || len(parts) == 1 {
		return "", false
	}
	away, text := 0, ""
	for _, x := range slices.Backward(parts[1:]) {
		switch {
		case x == "" || x == ".":
		case x == "..":
			away++
		case !right(x):
			return "", false
		case away > 0:
			away--
		default:
			text = "/" + x + text
		}
	}
	if away > 0 {
		return "", false
	}
	return max("/", text), true
}

// manyStrings tells all strings of up to n of the pieces.
func manyStrings(n int, pieces ...string) []string {
	all, last := []string{""}, []string{""}
	for range n {
		var next []string
		for _, s := range last {
			for _, p := range pieces {
				next = append(next, s+p)
			}
		}
		all, last = append(all, next...), next
	}
	return all
}

func someStrings() []string {
	l := append(manyStrings(7, "/", ".", "a", "B"), manyStrings(7, "/", "..", "b", "/c")...)
	for x := range 256 {
		c := string([]byte{byte(x)})
		l = append(l, c, "/"+c, "/a"+c, "/"+c+"a", "/a/"+c, "/"+c+"/a", "/a"+c+"/b", c+"/a", "/a/b"+c+"c/d")
	}
	for n := 10; n < 15; n++ {
		long := strings.Repeat("x", n)
		l = append(l, long, "/"+long, "/a/"+long, "/"+long+"/a", "/"+long+"/..", "/../"+long, "/a/../"+long+"/", "/"+long+"/"+long, "/"+long[1:]+"/"+long)
	}
	return l
}

// P4.1: "/", and the strings with "/" between them.
func TestJoin(t *testing.T) {
	for _, c := range []struct {
		l    []string
		want string
	}{
		{nil, "/"},
		{[]string{}, "/"},
		{[]string{"a"}, "/a"},
		{[]string{"a", "b"}, "/a/b"},
		{[]string{"a", "b", "a"}, "/a/b/a"},
		{[]string{""}, "/"},
		{[]string{"", ""}, "//"},
		{[]string{"a", "", "b"}, "/a//b"},
		{[]string{".", ".."}, "/./.."},
		{[]string{"/"}, "//"},
		{[]string{"/a", "b/"}, "//a/b/"},
		{[]string{"A b", "\xff"}, "/A b/\xff"},
	} {
		if got := path.Join(c.l); got != c.want {
			t.Errorf("Join(%q): %q", c.l, got)
		}
	}
}

// P4.1: the list of right names of which it is Join.
func TestSplitExamples(t *testing.T) {
	for _, c := range []struct {
		s    string
		want []string
		ok   bool
	}{
		{"/", nil, true},
		{"/a", []string{"a"}, true},
		{"/a/b", []string{"a", "b"}, true},
		{"/b/a/b", []string{"b", "a", "b"}, true},
		{"/.../a._-", []string{"...", "a._-"}, true},
		{"/abcdefghijkl", []string{"abcdefghijkl"}, true},
		{"/abcdefghijkl/abcdefghijkl/abcdefghijkl", []string{"abcdefghijkl", "abcdefghijkl", "abcdefghijkl"}, true},
		{"/abcdefghijklm", nil, false},
		{"", nil, false},
		{"a", nil, false},
		{"a/b", nil, false},
		{"//", nil, false},
		{"///", nil, false},
		{"/a/", nil, false},
		{"//a", nil, false},
		{"/a//b", nil, false},
		{"/.", nil, false},
		{"/..", nil, false},
		{"/a/.", nil, false},
		{"/a/..", nil, false},
		{"/./a", nil, false},
		{"/a/../b", nil, false},
		{"/A", nil, false},
		{"/a/B", nil, false},
		{"/a b", nil, false},
		{"/\xff", nil, false},
		{"/a\x00", nil, false},
		{" /a", nil, false},
		{"/a\n", nil, false},
	} {
		if got, ok := path.Split(c.s); !slices.Equal(got, c.want) || ok != c.ok {
			t.Errorf("Split(%q): %q, %v", c.s, got, ok)
		}
	}
}

// P4.1: many strings, of slashes, dots, and letters that are right and wrong.
func TestSplit(t *testing.T) {
	for _, s := range someStrings() {
		want, there := split(s)
		got, ok := path.Split(s)
		if !slices.Equal(got, want) || ok != there {
			t.Fatalf("Split(%q): %q, %v", s, got, ok)
		}
		if ok && path.Join(got) != s {
			t.Fatalf("Join of Split(%q): %q", s, path.Join(got))
		}
	}
}

// P4.1: right names that are joined are split again.
func TestSplitOfJoin(t *testing.T) {
	names := []string{"a", "...", "-", "0", "abcdefghijkl"}
	for n := range len(names) + 1 {
		for at := range names {
			l := append(slices.Clone(names[at:]), names[:at]...)[:n]
			if got, ok := path.Split(path.Join(l)); !slices.Equal(got, l) || !ok {
				t.Errorf("%q: %q, %v", l, got, ok)
			}
		}
	}
}

// P4.2: empty parts and "." are left out, ".." takes the one ahead that is left, all others are right names.
func TestCleanExamples(t *testing.T) {
	for _, c := range []struct {
		s, want string
		ok      bool
	}{
		{"/a//b/../c/", "/a/c", true},
		{"/", "/", true},
		{"//", "/", true},
		{"///", "/", true},
		{"/.", "/", true},
		{"/./", "/", true},
		{"/././.", "/", true},
		{"/a", "/a", true},
		{"/a/", "/a", true},
		{"/a///", "/a", true},
		{"//a", "/a", true},
		{"/a/./b", "/a/b", true},
		{"/a/b/.", "/a/b", true},
		{"/a/..", "/", true},
		{"/a/../", "/", true},
		{"/a/../b", "/b", true},
		{"/a/.//../b", "/b", true},
		{"/a/b/../..", "/", true},
		{"/a/b/../../c", "/c", true},
		{"/a/../b/../c", "/c", true},
		{"/...", "/...", true},
		{"/a/.../..", "/a", true},
		{"/abcdefghijkl/../abcdefghijkl", "/abcdefghijkl", true},
		{"", "", false},
		{"a", "", false},
		{"a/", "", false},
		{"a/b", "", false},
		{".", "", false},
		{"..", "", false},
		{"./a", "", false},
		{" /a", "", false},
		{"/..", "", false},
		{"/../a", "", false},
		{"//..", "", false},
		{"/./..", "", false},
		{"/a/../..", "", false},
		{"/a/../../b/c", "", false},
		{"/a/b/../../..", "", false},
		{"/A", "", false},
		{"/A/..", "", false},
		{"/a/B/../c", "", false},
		{"/a b", "", false},
		{"/. ", "", false},
		{"/a\x00", "", false},
		{"/\xff/..", "", false},
		{"/abcdefghijklm", "", false},
		{"/abcdefghijklm/..", "", false},
	} {
		if got, ok := path.Clean(c.s); got != c.want || ok != c.ok {
			t.Errorf("Clean(%q): %q, %v", c.s, got, ok)
		}
	}
}

// P4.2: many strings, of slashes, dots, and letters that are right and wrong.
func TestClean(t *testing.T) {
	for _, s := range someStrings() {
		want, there := clean(s)
		if got, ok := path.Clean(s); got != want || ok != there {
			t.Fatalf("Clean(%q): %q, %v", s, got, ok)
		}
	}
}

// P4.1, P4.2: paths of very many parts.
func TestManyParts(t *testing.T) {
	const n = 200000
	deep := strings.Repeat("/a", n)
	if l, ok := path.Split(deep); len(l) != n || !ok || path.Join(l) != deep {
		t.Errorf("Split: %d, %v", len(l), ok)
	}
	if l, ok := path.Split(deep + "/"); len(l) != 0 || ok {
		t.Errorf("Split with a slash at the end: %d, %v", len(l), ok)
	}
	for s, want := range map[string]string{
		deep + "/":                          deep,
		deep + strings.Repeat("/..", n):     "/",
		deep + strings.Repeat("/..", n-1):   "/a",
		strings.Repeat("/a/../.", n) + "/b": "/b",
		strings.Repeat("/", n):              "/",
	} {
		if got, ok := path.Clean(s); got != want || !ok {
			t.Errorf("Clean of %d bytes: %d, %v", len(s), len(got), ok)
		}
	}
	if got, ok := path.Clean(deep + strings.Repeat("/..", n+1)); got != "" || ok {
		t.Errorf("Clean above the root: %q, %v", got, ok)
	}
}

// P4.3: Split of what begins with "/", a right name alone; at most 24 bytes.
func TestRedirectExamples(t *testing.T) {
	for _, c := range []struct {
		s       string
		want    []string
		abs, ok bool
	}{
		{"/", nil, true, true},
		{"/x", []string{"x"}, true, true},
		{"/x/y", []string{"x", "y"}, true, true},
		{"/a/b/c/d/e/f/g/h/i/j/k/l", []string{"a", "b", "c", "d", "e", "f", "g", "h", "i", "j", "k", "l"}, true, true},
		{"/abcdefghijk/abcdefghijk", []string{"abcdefghijk", "abcdefghijk"}, true, true},
		{"/abcdefghijkl/abcdefghij", []string{"abcdefghijkl", "abcdefghij"}, true, true},
		{"/abcdefghijkl/abcdefghijk", nil, false, false},
		{"/a/b/c/d/e/f/g/h/i/j/k/lm", nil, false, false},
		{"/a/b/c/d/e/f/g/h/i/j/k/l/", nil, false, false},
		{"x", []string{"x"}, false, true},
		{"...", []string{"..."}, false, true},
		{"abcdefghijkl", []string{"abcdefghijkl"}, false, true},
		{"abcdefghijklm", nil, false, false},
		{"abcdefghijklmnopqrstuvwx", nil, false, false},
		{"/abcdefghijklm", nil, false, false},
		{"", nil, false, false},
		{".", nil, false, false},
		{"..", nil, false, false},
		{"x/y", nil, false, false},
		{"x/", nil, false, false},
		{"./x", nil, false, false},
		{"X", nil, false, false},
		{"x y", nil, false, false},
		{"x\x00", nil, false, false},
		{"\xff", nil, false, false},
		{"//", nil, false, false},
		{"//x", nil, false, false},
		{"/x/", nil, false, false},
		{"/x//y", nil, false, false},
		{"/.", nil, false, false},
		{"/..", nil, false, false},
		{"/x/../y", nil, false, false},
		{"/X", nil, false, false},
		{strings.Repeat("/a", 1000), nil, false, false},
		{strings.Repeat("a", 1000), nil, false, false},
	} {
		if got, abs, ok := path.Redirect(c.s); !slices.Equal(got, c.want) || abs != c.abs || ok != c.ok {
			t.Errorf("Redirect(%q): %q, %v, %v", c.s, got, abs, ok)
		}
	}
}

// P4.3: many strings, those of 24 bytes and of 25 among them.
func TestRedirect(t *testing.T) {
	l := someStrings()
	for n := range 30 {
		for at := 1; at < n; at++ {
			b := []byte("/" + strings.Repeat("x", n))[:n]
			b[at] = '/'
			l = append(l, string(b), string(b[1:]))
		}
	}
	for _, s := range l {
		want, abs := split(s)
		there := abs
		if right(s) {
			want, there = []string{s}, true
		}
		if len(s) > 24 {
			want, abs, there = nil, false, false
		}
		if got, gotAbs, ok := path.Redirect(s); !slices.Equal(got, want) || gotAbs != abs || ok != there {
			t.Fatalf("Redirect(%q): %q, %v, %v", s, got, gotAbs, ok)
		}
	}
}

// P4.3: the first ones, or all of it.
func TestBegins(t *testing.T) {
	for _, c := range []struct {
		a, b []string
		want bool
	}{
		{nil, nil, true},
		{nil, []string{}, true},
		{[]string{}, nil, true},
		{nil, []string{"a"}, true},
		{[]string{}, []string{"a", "b"}, true},
		{[]string{"a"}, nil, false},
		{[]string{"a"}, []string{}, false},
		{[]string{""}, nil, false},
		{[]string{""}, []string{""}, true},
		{[]string{"a"}, []string{"a"}, true},
		{[]string{"a"}, []string{"a", "b"}, true},
		{[]string{"a", "b"}, []string{"a", "b"}, true},
		{[]string{"a", "b"}, []string{"a"}, false},
		{[]string{"a", "b", "c"}, []string{"a", "b"}, false},
		{[]string{"b"}, []string{"a", "b"}, false},
		{[]string{"a"}, []string{"ab"}, false},
		{[]string{"ab"}, []string{"a", "b"}, false},
		{[]string{"a", "c"}, []string{"a", "b", "c"}, false},
		{[]string{"c", "b"}, []string{"a", "b"}, false},
		{[]string{"a"}, []string{"A"}, false},
		{[]string{"a", ""}, []string{"a"}, false},
		{[]string{"/", "\xff"}, []string{"/", "\xff", ".."}, true},
	} {
		if got := path.Begins(c.a, c.b); got != c.want {
			t.Errorf("Begins(%q, %q): %v", c.a, c.b, got)
		}
	}
}

// P4.3: what lies in a list's room behind is no part of it.
func TestBeginsAndRoomBehind(t *testing.T) {
	whole := []string{"a", "b", "c"}
	for n := range 4 {
		for m := range 4 {
			if got := path.Begins(whole[:n], whole[:m]); got != (n <= m) {
				t.Errorf("Begins of the first %d, the first %d: %v", n, m, got)
			}
		}
	}
}

// P4.4: what Split takes is Clean already; Clean twice is Clean, and Split takes it.
func TestCleanTwice(t *testing.T) {
	for _, s := range someStrings() {
		once, ok := path.Clean(s)
		if _, taken := path.Split(s); taken && (once != s || !ok) {
			t.Fatalf("Split takes %q, Clean of it is %q, %v", s, once, ok)
		}
		if !ok {
			continue
		}
		if twice, again := path.Clean(once); twice != once || !again {
			t.Fatalf("Clean of %q is %q, and of that %q, %v", s, once, twice, again)
		}
		if _, taken := path.Split(once); !taken {
			t.Fatalf("Clean of %q is %q, and Split does not take it", s, once)
		}
	}
}

// The lists that are answered share no memory with one another; those that are handed in stay.
func TestAnswersShareNothing(t *testing.T) {
	calls := map[string]func() []string{
		"Split":                    func() []string { l, _ := path.Split("/a/b/c"); return l },
		"Redirect of a path":       func() []string { l, _, _ := path.Redirect("/a/b/c"); return l },
		"Redirect of a name alone": func() []string { l, _, _ := path.Redirect("a"); return l },
	}
	for what, call := range calls {
		first, again := call(), call()
		want := slices.Clone(again)
		for i := range first[:cap(first)] {
			first[:cap(first)][i] = "other"
		}
		if !slices.Equal(again, want) || !slices.Equal(call(), want) {
			t.Errorf("%s: two answers share", what)
		}
	}
	whole := []string{"a", "b", "c", "d"}
	before := slices.Clone(whole)
	joined := path.Join(whole[:2])
	path.Begins(whole[:2], whole[:3])
	if !slices.Equal(whole, before) {
		t.Errorf("what was handed in is %q", whole)
	}
	whole[0], whole[1] = "x", "y"
	if joined != "/a/b" {
		t.Errorf("Join shares with its list: %q", joined)
	}
}
