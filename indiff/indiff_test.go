package indiff_test

import (
	"testing"

	"cento/api"
	"cento/build"
	"cento/diff"
	"cento/edit"
	"cento/indiff"
	"cento/normal"
	"cento/reader"
	"cento/sample"
	"cento/text"
	"cento/tree"
)

// value tells the value of a tree in a message: in which nothing is trimmed, or of several segments.
func value(t *testing.T, x api.Tree, several bool) reader.Ref {
	t.Helper()
	if !several {
		return sample.Value(x)
	}
	a, ok := build.Build(x, 3, api.MaxOut)
	if !ok {
		t.Fatalf("%s: there is no room", text.Print(x))
	}
	return sample.Root(a)
}

// check holds the edit between values against the one between the trees that they mean.
func check(t *testing.T, a, b api.Tree, most int) {
	t.Helper()
	want := diff.Trees(a, b, most)
	for i := range 4 {
		e, err := indiff.Values(value(t, a, i&1 == 1), value(t, b, i&2 == 2), most)
		if err != api.OK || !edit.Equal(e, want) {
			t.Fatalf("from %s to %s, limit %d: %+v, %d, not %+v", text.Print(a), text.Print(b), most, e, err, want)
		}
		if !edit.Right(e) || !edit.Equal(e, normal.Edit(e)) || (e.Kind == api.Same) != tree.Equal(a, b) {
			t.Fatalf("from %s to %s: %+v", text.Print(a), text.Print(b), e)
		}
	}
}

// 28.1, 28.2
func TestValues(t *testing.T) {
	for _, c := range []struct {
		a, b string
		most int
	}{
		{"_", "_", 9}, {"{1,0|_}", "{1}", 9}, {"p[{0},_]", "p[{},_]", 0}, {"c[{0|_},{1}]", "c[{},{1,0}]", 0}, {"_", "{}", 9}, {"{1,0}", "y[1]", 9}, {"y[1]", "t[1]", 9}, {"c[]", "p[]", 9},
		{"{7}", "{8}", 9}, {"{1,0,0}", "{1,2}", 9}, {"{1,2}", "{1,0,0,3}", 9}, {"{|{1},y[1]}", "{|{2},y[1],_,{}}", 9}, {"{1|_,_,{1,0}}", "{2|_,{1}}", 9},
		{"y[1,2,3]", "y[1,9,3]", 9}, {"y[1,2,3]", "y[1,9,3]", 1}, {"y[1]", "y[]", 0}, {"y[]", "y[1]", 0}, {"y[5,5]", "y[5]", 9}, {"v[0,0,0]", "v[0]", 9}, {"b[1,0,1]", "b[0,1]", 9}, {"e[1,2]", "e[2,1]", 9},
		{"p[{1,0},_,y[]]", "p[_,y[],{1}]", 9}, {"c[{1,2},{5},{7}]", "c[{1,3},{5},{8}]", 9}, {"c[{1,2|_},{5|y[1]}]", "c[{1,3},{5|y[2]},{}]", 9}, {"p[{1},y[2]]", "p[y[3],{4}]", 9}, {"p[{1,1},{1,2}]", "p[{1,2},{1,3}]", 0},
		{"p[p[y[1,2]]]", "p[p[y[1,3]]]", 9}, {"{|y[1,2,3]}", "{|y[1,3]}", 0}, {"p[y[1,2,3]]", "p[y[1,3]]", -1},
	} {
		a, _ := text.Parse(c.a)
		b, _ := text.Parse(c.b)
		check(t, a, b, c.most)
	}
}

// 28.1, 28.2
func TestManyValues(t *testing.T) {
	for seed := range 3000 {
		s := sample.From(seed)
		a := s.Tree(4)
		b := s.Like(a, 4)
		check(t, a, b, []int{0, 1, 3, 100}[s.Below(4)])
		check(t, a, tree.Norm(a), 0)
	}
}

// 28.1: of kids, and of nothing.
func TestKids(t *testing.T) {
	a, _ := text.Parse("{1|c[{1,0},{2}],{5}}")
	r := value(t, a, false)
	list, _ := r.Kid(0)
	first, _ := list.Kid(0)
	other, _ := r.Kid(1)
	for _, c := range []struct {
		a, b reader.Ref
		want api.Edit
	}{
		{first, other, api.Edit{Kind: api.StructEdit, Words: []api.WordEdit{{Mask: 1, Old: 1, New: 5}}}},
		{reader.Ref{}, reader.Ref{}, api.Edit{}},
		{reader.Ref{}, other, api.Edit{Kind: api.Replace, New: api.Tree{Kind: api.Struct, Words: []uint64{5}}}},
	} {
		if e, err := indiff.Values(c.a, c.b, 9); err != api.OK || !edit.Equal(e, c.want) {
			t.Errorf("%+v, %d, not %+v", e, err, c.want)
		}
	}
}

// 28.1: as many kids as two messages may have in all.
func TestManyKids(t *testing.T) {
	wide := api.Tree{Kind: api.Struct, Words: []uint64{1}, Kids: make([]api.Tree, 60000)}
	two := api.Tree{Kind: api.Struct, Words: []uint64{2}}
	a := api.Tree{Kind: api.Struct, Kids: []api.Tree{wide, two}}
	b := api.Tree{Kind: api.Struct, Kids: []api.Tree{two, wide}}
	want := diff.Trees(a, b, 9)
	if e, err := indiff.Values(sample.Value(a), sample.Value(b), 9); err != api.OK || !edit.Equal(e, want) {
		t.Errorf("%+v, %d, not %+v", e, err, want)
	}
}

// 28.1: long lists.
func TestLongLists(t *testing.T) {
	a := api.Tree{Kind: api.Four}
	for i := range 20000 {
		a.Kids = append(a.Kids, api.Tree{Kind: api.Atom, Words: []uint64{uint64(i % 15000)}})
	}
	b := api.Tree{Kind: api.Four, Kids: append(append([]api.Tree{}, a.Kids[:10000]...), a.Kids[10002:]...)}
	check(t, a, b, 4096)
}
