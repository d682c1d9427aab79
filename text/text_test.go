package text_test

import (
	"slices"
	"strings"
	"testing"

	"cento/api"
	"cento/sample"
	"cento/text"
	"cento/tree"
)

// Short forms of what the tests are written with.
var atom = sample.Number

func list(kind int, kids ...api.Tree) api.Tree {
	return api.Tree{Kind: kind, Kids: kids}
}

func st(words []uint64, kids ...api.Tree) api.Tree {
	return api.Tree{Kind: api.Struct, Words: words, Kids: kids}
}

// exact tells whether two trees are the same, field by field.
func exact(a, b api.Tree) bool {
	return a.Kind == b.Kind && slices.Equal(a.Words, b.Words) && slices.EqualFunc(a.Kids, b.Kids, exact)
}

func nothing(t api.Tree) bool { return exact(t, api.Tree{}) }

// 8.1, 8.2
func TestPrintAndParse(t *testing.T) {
	for _, c := range []struct {
		x api.Tree
		s string
	}{
		{api.Tree{}, "_"},
		{st(nil), "{}"},
		{st([]uint64{0}), "{0}"},
		{st([]uint64{1, 0xff}, api.Tree{}, list(api.Byte, atom(2))), "{1,ff|_,y[2]}"},
		{st(nil, api.Tree{}), "{|_}"},
		{st(nil, st(nil, st([]uint64{1})), st(nil)), "{|{|{1}},{}}"},
		{st([]uint64{0, 0, 0xffffffffffffffff}), "{0,0,ffffffffffffffff}"},
		{list(api.Void, atom(0), atom(0)), "v[0,0]"},
		{list(api.Bit, atom(1), atom(0)), "b[1,0]"},
		{list(api.Byte), "y[]"},
		{list(api.Two, atom(0xffff)), "t[ffff]"},
		{list(api.Four, atom(0xdeadbeef)), "f[deadbeef]"},
		{list(api.Eight, atom(0x123456789abcdef0)), "e[123456789abcdef0]"},
		{list(api.Pointers, api.Tree{}, list(api.Bit, atom(1)), list(api.Eight), st(nil)), "p[_,b[1],e[],{}]"},
		{list(api.Pointers), "p[]"},
		{list(api.Composite, st([]uint64{5}), st(nil, api.Tree{})), "c[{5},{|_}]"},
		{list(api.Composite), "c[]"},
	} {
		if s := text.Print(c.x); s != c.s {
			t.Errorf("%s is printed as %s", c.s, s)
		}
		x, err := text.Parse(c.s)
		if err != api.OK || !exact(x, c.x) {
			t.Errorf("%s is parsed as %+v, %d", c.s, x, err)
		}
	}
	if s := text.Print(atom(0xa0)); s != "a0" {
		t.Errorf("an atom is printed as %s", s)
	}
}

// 8.1
func TestParseRefuses(t *testing.T) {
	for _, s := range []string{
		"", " ", "__", "_ ", " _", "x", "{", "}", "[", "]", "0", "7", "ff", "{}}", "{},{}",
		"{|}", "{1|}", "{,}", "{1,}", "{,1}", "{1,|_}", "{|_,}", "{|,_}", "{||_}", "{_}", "{1 }", "{1, 2}", "{1;2}", "{1|_|_}", "{{}}",
		"{01}", "{00}", "{0a}", "{A}", "{g}", "{-1}", "{+1}", "{0x1}", "{1_0}", "{10000000000000000}", "{fffffffffffffffff}", "{00000000000000001}",
		"y", "y[", "y]", "y[1", "y[,]", "y[1,]", "y[,1]", "y[1,,2]", "y[1]]", "y[01]", "y[_]", "y[{}]", "y{1}", "y[1|2]",
		"v[1]", "b[2]", "y[100]", "t[10000]", "f[100000000]", "e[10000000000000000]",
		"p[1]", "p[_", "p[_,]", "p", "p[_ ,_]", "c[_]", "c[p[]]", "c[1]", "c[{}", "c[{},]", "Y[1]", "z[]",
		"{1\n}", "\x00", "{\xff}", "é",
	} {
		if x, err := text.Parse(s); err != api.ErrText || !nothing(x) {
			t.Errorf("%q is parsed as %+v, %d", s, x, err)
		}
	}
}

// 8.1
func TestParseAtTheLimits(t *testing.T) {
	deep := func(n int) string { return strings.Repeat("{|", n) + "_" + strings.Repeat("}", n) }
	many := func(open, one string, n int, end string) string {
		return open + strings.Repeat(one+",", n-1) + one + end
	}
	for _, c := range []struct {
		name string
		s    string
		want api.Errno
	}{
		{"64 deep", deep(64), api.OK},
		{"65 deep", deep(65), api.ErrText},
		{"a million deep", deep(1000000), api.ErrText},
		{"a million braces", strings.Repeat("{|", 1000000), api.ErrText},
		{"lists in 64", strings.Repeat("p[", 64) + strings.Repeat("]", 64), api.OK},
		{"lists in 65", strings.Repeat("p[", 65) + strings.Repeat("]", 65), api.ErrText},
		{"structs of a list at 65", strings.Repeat("p[", 63) + "c[{}]" + strings.Repeat("]", 63), api.ErrText},
		{"65535 words", many("{", "1", 65535, "}"), api.OK},
		{"65536 words", many("{", "1", 65536, "}"), api.ErrText},
		{"65535 kids", many("{|", "_", 65535, "}"), api.OK},
		{"65536 kids", many("{|", "_", 65536, "}"), api.ErrText},
		{"2^20 - 1 in a list", many("v[", "0", 1<<20-1, "]"), api.OK},
		{"2^20 in a list", many("v[", "0", 1<<20, "]"), api.ErrText},
	} {
		x, err := text.Parse(c.s)
		if err != c.want {
			t.Errorf("%s: %d", c.name, err)
		}
		if err == api.OK && (text.Print(x) != c.s || !tree.Right(x)) {
			t.Errorf("%s: it is printed otherwise", c.name)
		}
	}
}
