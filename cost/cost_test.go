package cost_test

import (
	"testing"

	"cento/api"
	"cento/canon"
	"cento/cost"
	"cento/diff"
	"cento/etext"
	"cento/patch"
	"cento/sample"
	"cento/tree"
)

// Short forms of what the tests are written with.
var tr, ed = sample.TreeOf, sample.EditOf

// check holds the number of words against the tree, and the words, of an edit.
func check(t *testing.T, e api.Edit) {
	t.Helper()
	n := cost.Words(e)
	if want := 1 + tree.Size(patch.Tree(e)); n != want {
		t.Fatalf("%s: %d words, not %d", etext.Print(e), n, want)
	}
	if l, ok := canon.Encode(patch.Tree(e), api.MaxOut); ok && len(l) != n {
		t.Fatalf("%s: %d words, not %d", etext.Print(e), n, len(l))
	}
}

// 39.1, 39.2
func TestWords(t *testing.T) {
	for _, c := range []struct {
		s    string
		want int
	}{
		{"=", 1}, {"(_>_)", 2}, {"({}>_)", 3}, {"(_>{})", 4}, {"({1,0}>y[5])", 6}, {"(_>{0,0|_})", 4}, {"s{|}", 2},
		{"s{0:1:1:2|}", 7}, {"s{0:1:1:0|}", 6}, {"s{0:1:0:0|}", 5}, {"s{0:1:0:2|}", 7}, {"s{0:1:0:0,1:1:1:0|}", 8}, {"s{0:1:0:0,1:1:0:1,2:1:0:0|}", 13},
		{"s{|0:s{|}}", 7}, {"s{|1:s{|}}", 8}, {"s{|0:(_>_),5:s{|}}", 11}, {"s{0:1:1:2|0:(_>_)}", 11},
		{"ly[]", 2}, {"ly[k2]", 5}, {"ly[k1,-y[5]]", 9}, {"ly[k2,-y[5],+y[6,7]]", 12}, {"lv[+v[0,0]]", 6}, {"lp[-p[_,{1}]]", 9}, {"lc[*s{|}]", 7}, {"lc[+c[{},{}]]", 7},
	} {
		if n := cost.Words(ed(c.s)); n != c.want {
			t.Errorf("%s: %d, not %d", c.s, n, c.want)
		}
		check(t, ed(c.s))
	}
	for seed := range 4000 {
		s := sample.From(seed)
		x := s.Tree(4)
		check(t, s.Edit(x, 4))
		check(t, diff.Trees(x, s.Like(x, 4), 100))
	}
}

// 39.1: whether they would be too many, or too deep, or not.
func TestWordsBeyondTheLimits(t *testing.T) {
	deep := ed("s{|}")
	for range 63 {
		deep = api.Edit{Kind: api.StructEdit, Kids: []api.KidEdit{{E: deep}}}
	}
	check(t, deep)
	ones := api.Tree{Kind: api.Struct}
	for range 65535 {
		ones.Words = append(ones.Words, 1)
	}
	three := api.Edit{Kind: api.ListEdit, List: api.Pointers, Ops: []api.Op{{Kind: api.Insert, L: []api.Tree{ones, ones, ones}}}}
	if n := cost.Words(three); n != 3*65535+9 {
		t.Errorf("%d words", n)
	}
	check(t, three)
	if n := cost.Saves(three, tr("{5}")); n != 2-(3*65535+9) {
		t.Errorf("it saves %d", n)
	}
}

// 39.1
func TestSaves(t *testing.T) {
	for _, c := range []struct {
		e, to string
		want  int
	}{
		{"=", "_", 0}, {"=", "{5}", 1}, {"(_>_)", "_", -1}, {"s{0:1:1:2|}", "{2}", -5}, {"s{0:1:1:2|}", "{2,0,1,1,1,1,1,1,1,1}", 4}, {"=", "{5,0|_}", 1},
	} {
		if n := cost.Saves(ed(c.e), tr(c.to)); n != c.want {
			t.Errorf("%s, %s: %d, not %d", c.e, c.to, n, c.want)
		}
	}
	wide := api.Tree{Kind: api.Struct}
	for range 65535 {
		wide.Words = append(wide.Words, 1)
	}
	if n := cost.Saves(ed("="), api.Tree{Kind: api.Pointers, Kids: []api.Tree{wide, wide, wide}}); n != 0 {
		t.Errorf("of a tree without words it saves %d", n)
	}
}
