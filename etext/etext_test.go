package etext_test

import (
	"fmt"
	"strings"
	"testing"

	"cento/api"
	"cento/edit"
	"cento/etext"
	"cento/sample"
	"cento/text"
)

// Short forms of what the tests are written with.
var (
	tr, replace, list, keep     = sample.TreeOf, sample.Replace, sample.Ops, sample.Keep
	del, insert, descend, words = sample.Delete, sample.Insert, sample.Descend, sample.Words
	kids, atom                  = sample.Kids, sample.Number
)

// shown tells an edit with its trees as they stand.
func shown(e api.Edit) string {
	s := fmt.Sprint(e.Kind, text.Print(e.Old), text.Print(e.New), e.Words, e.List)
	for _, k := range e.Kids {
		s += fmt.Sprint(" kid ", k.At, shown(k.E))
	}
	for _, o := range e.Ops {
		s += fmt.Sprint(" op ", o.Kind, o.N, text.Print(api.Tree{Kind: api.Pointers, Kids: o.L}))
		if o.Kind == api.Descend {
			s += shown(o.E)
		}
	}
	return s
}

// 38.1, 38.2
func TestPrintAndParse(t *testing.T) {
	w := api.WordEdit{At: 10, Mask: 0x81, Old: 5, New: 1 << 63}
	for _, c := range []struct {
		e api.Edit
		s string
	}{
		{api.Edit{}, "="},
		{replace("_", "_"), "(_>_)"},
		{replace("{1,0|_}", "p[y[5],_]"), "({1,0|_}>p[y[5],_])"},
		{words(), "s{|}"},
		{words(api.WordEdit{Mask: 1, Old: 1, New: 2}), "s{0:1:1:2|}"},
		{words(w, api.WordEdit{At: 65534, Mask: 0xff}), "s{a:81:5:8000000000000000,fffe:ff:0:0|}"},
		{kids(api.KidEdit{At: 16, E: words()}, api.KidEdit{At: 17, E: replace("_", "{}")}), "s{|10:s{|},11:(_>{})}"},
		{api.Edit{Kind: api.StructEdit, Words: []api.WordEdit{w}, Kids: []api.KidEdit{{E: list(api.Byte)}}}, "s{a:81:5:8000000000000000|0:ly[]}"},
		{list(api.Byte, keep(2), del(atom(5)), insert(atom(6), atom(7))), "ly[k2,-y[5],+y[6,7]]"},
		{list(api.Void, keep(api.MaxList-2), insert(atom(0))), "lv[kffffe,+v[0]]"},
		{list(api.Bit, insert(atom(1))), "lb[+b[1]]"}, {list(api.Two, insert(atom(1))), "lt[+t[1]]"}, {list(api.Four, insert(atom(1))), "lf[+f[1]]"}, {list(api.Eight, insert(atom(1))), "le[+e[1]]"},
		{list(api.Pointers, del(api.Tree{}, tr("{1,0}")), descend(list(api.Byte, keep(1))), descend(replace("_", "_"))), "lp[-p[_,{1,0}],*ly[k1],*(_>_)]"},
		{list(api.Composite, descend(words(w)), keep(1), insert(tr("{|_}"))), "lc[*s{a:81:5:8000000000000000|},k1,+c[{|_}]]"},
	} {
		if s := etext.Print(c.e); s != c.s {
			t.Errorf("%s is printed as %s", c.s, s)
		}
		if e, err := etext.Parse(c.s); err != api.OK || shown(e) != shown(c.e) {
			t.Errorf("%s is parsed as %s, %d", c.s, shown(e), err)
		}
	}
	for seed := range 3000 {
		s := sample.From(seed)
		e := s.Edit(s.Tree(4), 4)
		got, err := etext.Parse(etext.Print(e))
		if err != api.OK || shown(got) != shown(e) {
			t.Fatalf("%s is parsed as %s, %d", etext.Print(e), shown(got), err)
		}
	}
}

// 38.1
func TestParseRefuses(t *testing.T) {
	for _, s := range []string{
		"", " ", "==", "= ", " =", "x", "_", "{}", "y[1]", "k1",
		"(", "()", "(>)", "(_>)", "(>_)", "(_>_", "(_>_))", "(_ > _)", "(_,_)", "(_>_>_)", "({>_)", "(}>_)", "(y[1>_)", "(5>_)", "(_>y[100])", "({01}>_)", "(}{_>_)",
		"s", "s{", "s{}", "s|", "s{|", "s{||}", "s{|}}", "s{,|}", "s{|,}", "s{0:1:1:2}", "s{0:1:1|}", "s{0:1:1:2:3|}", "s{0:1:1:2,|}", "s{,0:1:1:2|}", "s{0;1:1:2|}", "s{ 0:1:1:2|}",
		"s{00:1:1:2|}", "s{0:01:1:2|}", "s{0:1:01:2|}", "s{A:1:1:2|}", "s{0:0:0:0|}", "s{0:1:100:0|}", "s{0:1:0:100|}", "s{0:100:0:0|}", "s{0:101:0:0|}", "s{ffff:1:1:2|}", "s{10000000000000000:1:1:2|}", "s{ffffffffffffffff:1:1:2|}", "s{-1:1:1:2|}", "s{1:1:1:2,1:1:1:2|}", "s{1:1:1:2,0:1:1:2|}",
		"s{|0}", "s{|0:}", "s{|0:=}", "s{|:s{|}}", "s{|00:s{|}}", "s{|ffff:s{|}}", "s{|1:s{|},1:s{|}}", "s{|1:s{|},0:s{|}}", "s{|1:s{|}", "s{|1:s{|},}",
		"l", "l[]", "ly", "ly[", "ly]", "lx[]", "l_[]", "l{[]", "ly[]]", "ly[,]", "ly[k1,]", "ly[,k1]", "ly[k1 ]", "ly[k0]", "ly[k]", "ly[k01]", "ly[k100000]", "ly[kffffffffffffffff]", "ly[k-1]", "ly[1]",
		"ly[-]", "ly[-y[]]", "ly[+y[]]", "ly[-t[5]]", "ly[-_]", "ly[-5]", "ly[+y[100]]", "ly[+{}]", "ly[-y[5]", "ly[*=]", "ly[*s{|}]", "lp[*=]", "lp[*]", "lc[*(_>{})]", "lc[*({}>y[1])]", "lc[*ly[]]", "lc[*=]", "lp[-c[{}]]", "lp[-p[]]", "Ly[]", "ly[kfffff,+y[1]]",
	} {
		if e, err := etext.Parse(s); err != api.ErrText || !edit.Equal(e, api.Edit{}) {
			t.Errorf("%q is parsed as %s, %d", s, shown(e), err)
		}
	}
}

// 38.1
func TestParseAtTheLimits(t *testing.T) {
	deep := func(n int) string { return strings.Repeat("s{|0:", n-1) + "s{|}" + strings.Repeat("}", n-1) }
	for _, c := range []struct {
		name string
		s    string
		want api.Errno
	}{
		{"64 within one another", deep(64), api.OK},
		{"65 within one another", deep(65), api.ErrText},
		{"a million within one another", deep(1000000), api.ErrText},
		{"a million lists", strings.Repeat("lp[*", 1000000), api.ErrText},
		{"a million braces", "(" + strings.Repeat("{|", 1000000), api.ErrText},
		{"a tree 64 deep", "(" + strings.Repeat("p[", 64) + strings.Repeat("]", 64) + ">_)", api.OK},
		{"a tree 65 deep", "(" + strings.Repeat("p[", 65) + strings.Repeat("]", 65) + ">_)", api.ErrText},
		{"65536 steps", "lv[" + strings.Repeat("k1,", 65535) + "k1]", api.OK},
		{"65535 kids", "lp[+p[" + strings.Repeat("_,", 65534) + "_]]", api.OK},
	} {
		e, err := etext.Parse(c.s)
		if err != c.want || err == api.OK && etext.Print(e) != c.s {
			t.Errorf("%s: %d", c.name, err)
		}
	}
}
