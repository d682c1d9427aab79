package inapply_test

import (
	"testing"

	"cento/api"
	"cento/apply"
	"cento/build"
	"cento/inapply"
	"cento/reader"
	"cento/sample"
	"cento/text"
	"cento/tree"
)

// Short forms of what the tests are written with.
var (
	tr, replace, list, keep     = sample.TreeOf, sample.Replace, sample.Ops, sample.Keep
	del, insert, descend, words = sample.Delete, sample.Insert, sample.Descend, sample.Words
	kids, atom                  = sample.Kids, sample.Number
)

// values tells the value of a tree in two messages: one in which nothing is trimmed, and one of several segments.
func values(t *testing.T, x api.Tree) []reader.Ref {
	t.Helper()
	a, ok := build.Build(x, 3, api.MaxOut)
	if !ok {
		t.Fatalf("%s: there is no room", text.Print(x))
	}
	return []reader.Ref{sample.Value(x), sample.Root(a)}
}

// checkMeans holds what is said of a value against the trees.
func checkMeans(t *testing.T, x, y api.Tree) {
	t.Helper()
	for i, r := range values(t, x) {
		if got, err := inapply.Means(r, y); got != tree.Equal(x, y) || err != api.OK {
			t.Fatalf("%s, %d, and %s: %v, %d", text.Print(x), i, text.Print(y), got, err)
		}
	}
}

// 29.1
func TestMeans(t *testing.T) {
	texts := []string{
		"_", "{}", "{0|_}", "{0,0|_,_}", "{7}", "{7,0}", "{0,7}", "{7|{}}", "{7|{0}}", "{7|_,{}}", "{7|{},_}", "{|y[7]}",
		"v[]", "v[0]", "b[]", "b[0]", "b[1]", "y[1]", "y[1,0]", "y[0,1]", "t[1]", "p[]", "p[_]", "p[_,_]", "p[{0},_]", "p[{},_]", "c[]", "c[{}]", "c[{|_}]", "c[{},{}]", "c[{1,0},{0|_}]", "c[{1},{}]", "c[{|y[1]},{}]",
	}
	for _, a := range texts {
		for _, b := range texts {
			checkMeans(t, tr(a), tr(b))
		}
	}
	k, _ := values(t, tr("y[5]"))[0].Kid(0)
	for _, c := range []struct {
		x    api.Tree
		want bool
	}{{atom(5), true}, {atom(6), false}, {api.Tree{}, false}, {tr("{5}"), false}} {
		if got, err := inapply.Means(k, c.x); got != c.want || err != api.OK {
			t.Errorf("an atom, and %+v: %v, %d", c.x, got, err)
		}
	}
	if got, err := inapply.Means(reader.Ref{}, api.Tree{}); !got || err != api.OK {
		t.Errorf("the zero Ref: %v, %d", got, err)
	}
}

// check holds what becomes of a value against what becomes of the tree that it means.
func check(t *testing.T, e api.Edit, x api.Tree) bool {
	t.Helper()
	want, ok := apply.Edit(e, x)
	for i, r := range values(t, x) {
		got, err := inapply.Edit(e, r)
		if ok && (err != api.OK || text.Print(got) != text.Print(want)) {
			t.Fatalf("%s, %d, by %+v: %s, %d, not %s", text.Print(x), i, e, text.Print(got), err, text.Print(want))
		}
		if !ok && (err != api.ErrMismatch || got.Kind != 0 || len(got.Words)+len(got.Kids) > 0) {
			t.Fatalf("%s, %d, by %+v: %s, %d", text.Print(x), i, e, text.Print(got), err)
		}
	}
	return ok
}

// 29.1
func TestEdit(t *testing.T) {
	w := words(api.WordEdit{At: 0, Mask: 1, Old: 5, New: 6})
	at := func(i int, e api.Edit) api.KidEdit { return api.KidEdit{At: i, E: e} }
	for _, c := range []struct {
		e    api.Edit
		t    string
		want bool
	}{
		{api.Edit{}, "{1,0|y[5],_}", true}, {api.Edit{}, "_", true},
		{replace("_", "{}"), "{}", false}, {replace("{1,0}", "y[5]"), "{1|_}", true}, {replace("_", "{1,0|_}"), "_", true}, {replace("{1}", "_"), "{2}", false},
		{w, "{5}", true}, {w, "{7}", false}, {w, "{1105,2}", true}, {w, "{}", false}, {w, "y[5]", false}, {w, "_", false}, {words(), "{1,0|_}", true}, {words(), "_", false}, {words(), "c[]", false},
		{words(api.WordEdit{At: 3, Mask: 1, New: 7}), "{1}", true}, {words(api.WordEdit{At: 1, Mask: 1, Old: 7}), "{1,7}", true}, {words(api.WordEdit{At: 65534, Mask: 1}), "{1}", true},
		{kids(at(1, w)), "{|_,{5}}", true}, {kids(at(1, w)), "{|{5},_}", false}, {kids(at(2, replace("_", "{1}"))), "{}", true}, {kids(at(2, w)), "{}", false}, {kids(at(1, replace("{1}", "_"))), "{|y[],{1}}", true},
		{kids(at(65534, replace("_", "_"))), "{}", true}, {kids(at(0, w), at(2, w), at(5, replace("_", "{}")), at(7, replace("_", "_")), at(8, replace("_", "y[]"))), "{|{5},y[1],{5}}", true},
		{list(api.Byte, keep(2), del(atom(5)), insert(atom(6), atom(7))), "y[1,2,5]", true}, {list(api.Byte, keep(2)), "y[1]", false}, {list(api.Byte, keep(2)), "y[1,2,3]", false}, {list(api.Byte, keep(2)), "t[1,2]", false},
		{list(api.Byte), "{}", false}, {list(api.Byte), "y[]", true}, {list(api.Byte), "y[1]", false}, {list(api.Byte, del(atom(2), atom(1))), "y[1,2]", false}, {list(api.Byte, del(atom(1), atom(2))), "y[1]", false},
		{list(api.Pointers, del(tr("{1,0}"), tr("_"))), "p[{1|_},_]", true}, {list(api.Pointers, del(tr("{}"))), "p[_]", false}, {list(api.Composite, keep(1), descend(w)), "c[{5},{5,1}]", true},
		{list(api.Composite, descend(w), keep(1)), "c[{4},{5}]", false}, {list(api.Composite, keep(1), descend(w)), "c[{5}]", false}, {list(api.Pointers, descend(replace("_", "y[1]"))), "p[_]", true},
	} {
		if ok := check(t, c.e, tr(c.t)); ok != c.want {
			t.Errorf("%s by %+v: %v", c.t, c.e, ok)
		}
	}
}

// 29.1
func TestManyEdits(t *testing.T) {
	undefined := 0
	for seed := range 3000 {
		s := sample.From(seed)
		x := s.Tree(4)
		y := s.Like(x, 4)
		e := s.Edit(x, 4)
		check(t, e, x)
		if !check(t, e, y) {
			undefined++
		}
		checkMeans(t, x, y)
		checkMeans(t, x, tree.Norm(x))
	}
	if undefined < 500 || undefined > 2500 {
		t.Errorf("%d of 3000 edits are not defined on what is like their tree", undefined)
	}
}
