package path_test

import (
	"math"
	"slices"
	"testing"

	"cento/api"
	"cento/path"
	"cento/sample"
	"cento/text"
	"cento/tree"
)

// Short forms of what the tests are written with.
var tr = sample.TreeOf

type steps = []api.Step

func kid(at int) api.Step { return api.Step{Kind: api.Kid, At: at} }
func wrd(at int) api.Step { return api.Step{Kind: api.Word, At: at} }
func gap(at int) api.Step { return api.Step{Kind: api.Gap, At: at} }

// 31.1
func TestGet(t *testing.T) {
	for _, c := range []struct {
		t    string
		l    steps
		want string
	}{
		{"{1|y[5,6]}", nil, "{1|y[5,6]}"}, {"{1,0|_}", nil, "{1}"}, {"_", nil, "_"},
		{"{1|y[5,6]}", steps{kid(0), kid(1)}, "6"}, {"{1|y[5,6]}", steps{wrd(0)}, "{1}"}, {"{1|y[5,6]}", steps{kid(0), gap(2)}, "y[]"}, {"{1|y[5,6]}", steps{kid(0), gap(0)}, "y[]"},
		{"{1|y[5,6]}", steps{kid(0)}, "y[5,6]"}, {"{1|y[5,6]}", steps{kid(1)}, "_"}, {"{1|y[5,6]}", steps{kid(65534)}, "_"}, {"{1|y[5,6]}", steps{wrd(1)}, "{}"}, {"{1|y[5,6]}", steps{wrd(65534)}, "{}"},
		{"{0,7}", steps{wrd(0)}, "{}"}, {"{0,7}", steps{wrd(1)}, "{7}"}, {"{|{1,0|_}}", steps{kid(0)}, "{1}"},
		{"p[_,{|c[{1,2},{3}]}]", steps{kid(1), kid(0), kid(1), wrd(0)}, "{3}"}, {"p[_,{|c[{1,2},{3}]}]", steps{kid(1), kid(0), gap(1)}, "c[]"}, {"p[_,{1}]", steps{kid(0)}, "_"}, {"p[]", steps{gap(0)}, "p[]"},
	} {
		got, ok := path.Get(tr(c.t), c.l)
		if !ok || text.Print(got) != c.want {
			t.Errorf("%s, %v: %s, %v, not %s", c.t, c.l, text.Print(got), ok, c.want)
		}
	}
	for _, c := range []struct {
		t string
		l steps
	}{
		{"_", steps{kid(0)}}, {"_", steps{wrd(0)}}, {"_", steps{gap(0)}},
		{"{1|y[5,6]}", steps{kid(-1)}}, {"{1|y[5,6]}", steps{kid(65535)}}, {"{1|y[5,6]}", steps{kid(math.MaxInt)}}, {"{1|y[5,6]}", steps{wrd(-1)}}, {"{1|y[5,6]}", steps{wrd(65535)}}, {"{1|y[5,6]}", steps{wrd(math.MinInt)}},
		{"{1|y[5,6]}", steps{gap(0)}}, {"{1|y[5,6]}", steps{{Kind: 3}}}, {"{1|y[5,6]}", steps{{Kind: -1}}},
		{"{1|y[5,6]}", steps{kid(0), kid(2)}}, {"{1|y[5,6]}", steps{kid(0), kid(-1)}}, {"{1|y[5,6]}", steps{kid(0), wrd(0)}}, {"{1|y[5,6]}", steps{kid(0), gap(3)}}, {"{1|y[5,6]}", steps{kid(0), gap(-1)}}, {"{1|y[5,6]}", steps{kid(0), {Kind: 3}}},
		{"{1|y[5,6]}", steps{kid(1), kid(0)}}, {"{1|y[5,6]}", steps{kid(0), kid(0), kid(0)}}, {"{1|y[5,6]}", steps{kid(0), kid(0), wrd(0)}}, {"{1|y[5,6]}", steps{kid(0), kid(0), gap(0)}},
		{"{1}", steps{wrd(0), wrd(0)}}, {"{1}", steps{wrd(0), kid(0)}}, {"y[1]", steps{gap(0), gap(0)}}, {"p[]", steps{kid(0)}}, {"p[_]", steps{gap(2)}},
	} {
		if got, ok := path.Get(tr(c.t), c.l); ok || got.Kind != 0 || len(got.Words)+len(got.Kids) > 0 {
			t.Errorf("%s, %v: %s, %v", c.t, c.l, text.Print(got), ok)
		}
	}
}

// 31.2
func TestCompare(t *testing.T) {
	rising := []steps{
		nil, {kid(0)}, {kid(0), kid(0)}, {kid(0), kid(0), kid(0)}, {kid(0), kid(1)}, {kid(0), kid(7)}, {kid(0), wrd(0)}, {kid(0), gap(0)}, {kid(0), gap(5)},
		{kid(1)}, {kid(1), kid(0)}, {kid(10)}, {wrd(0)}, {wrd(3)}, {gap(0)}, {gap(1)},
	}
	for i, a := range rising {
		for j, b := range rising {
			want := 0
			if i < j {
				want = -1
			} else if i > j {
				want = 1
			}
			if got := path.Compare(a, b); got != want {
				t.Errorf("Compare(%v, %v): %d", a, b, got)
			}
		}
	}
	if path.Compare(steps{}, nil) != 0 {
		t.Error("an empty path and none are unlike")
	}
}

// 31.3
func TestTreeAndRead(t *testing.T) {
	for _, c := range []struct {
		l    steps
		want string
	}{
		{nil, "e[]"}, {steps{kid(0)}, "e[0]"}, {steps{kid(1), wrd(2), gap(3)}, "e[4,9,e]"}, {steps{gap(api.MaxList)}, "e[400002]"}, {steps{kid(api.MaxList), kid(5)}, "e[400000,14]"},
	} {
		if got := path.Tree(c.l); text.Print(got) != c.want || !tree.Right(got) {
			t.Errorf("Tree of %v: %s", c.l, text.Print(got))
		}
		if l, ok := path.Read(tr(c.want)); !ok || !slices.Equal(l, c.l) {
			t.Errorf("%s is read as %v, %v", c.want, l, ok)
		}
	}
	for _, s := range []string{"_", "{}", "y[0]", "f[0]", "p[]", "e[3]", "e[0,7]", "e[400004]", "e[400005]", "e[400006]", "e[ffffffffffffffff]", "e[8000000000000000]", "e[fffffffffffffffc]"} {
		if l, ok := path.Read(tr(s)); ok || len(l) != 0 {
			t.Errorf("%s is read as %v", s, l)
		}
	}
}

// 31.1: each kid, and each word, is found by its path.
func TestAllPlaces(t *testing.T) {
	var walk func(whole, x api.Tree, l steps)
	walk = func(whole, x api.Tree, l steps) {
		if got, ok := path.Get(whole, l); !ok || text.Print(got) != text.Print(tree.Norm(x)) {
			t.Fatalf("%s, %v: %s, %v, not %s", text.Print(whole), l, text.Print(got), ok, text.Print(x))
		}
		for i, k := range x.Kids {
			walk(whole, k, append(slices.Clone(l), kid(i)))
		}
	}
	for seed := range 500 {
		x := sample.From(seed).Tree(5)
		walk(x, x, nil)
	}
}
