package normal_test

import (
	"reflect"
	"testing"

	"cento/api"
	"cento/apply"
	"cento/edit"
	"cento/normal"
	"cento/sample"
	"cento/text"
)

// Short forms of what the tests are written with.
var (
	tr, replace, list, keep     = sample.TreeOf, sample.Replace, sample.Ops, sample.Keep
	del, insert, descend, words = sample.Delete, sample.Insert, sample.Descend, sample.Words
	kids, atom                  = sample.Kids, sample.Number
)

// exact tells whether two edits are the same, field by field, nil and empty lists being so.
func exact(a, b api.Edit) bool {
	return reflect.DeepEqual(plain(a), plain(b))
}

// plain tells an edit that has nil for each empty list.
func plain(e api.Edit) api.Edit {
	out := api.Edit{Kind: e.Kind, List: e.List, Old: plainTree(e.Old), New: plainTree(e.New)}
	out.Words = append(out.Words, e.Words...)
	for _, k := range e.Kids {
		out.Kids = append(out.Kids, api.KidEdit{At: k.At, E: plain(k.E)})
	}
	for _, o := range e.Ops {
		p := api.Op{Kind: o.Kind, N: o.N, E: plain(o.E)}
		for _, t := range o.L {
			p.L = append(p.L, plainTree(t))
		}
		out.Ops = append(out.Ops, p)
	}
	return out
}

func plainTree(t api.Tree) api.Tree {
	out := api.Tree{Kind: t.Kind}
	out.Words = append(out.Words, t.Words...)
	for _, k := range t.Kids {
		out.Kids = append(out.Kids, plainTree(k))
	}
	return out
}

// 22.1
func TestEdit(t *testing.T) {
	w := api.WordEdit{At: 3, Mask: 1, Old: 5, New: 6}
	st := words()
	one, two, three := atom(1), atom(2), atom(3)
	for _, c := range []struct{ e, want api.Edit }{
		{api.Edit{}, api.Edit{}},
		{replace("{1,0|_}", "p[{0},_]"), replace("{1}", "p[{},_]")},
		{words(w), words(w)},
		{st, st},
		{kids(api.KidEdit{At: 1, E: replace("{0}", "_")}, api.KidEdit{At: 4, E: st}), kids(api.KidEdit{At: 1, E: replace("{}", "_")}, api.KidEdit{At: 4, E: st})},
		{kids(api.KidEdit{At: 1, E: list(api.Byte, keep(1), keep(1))}), kids(api.KidEdit{At: 1, E: list(api.Byte, keep(2))})},
		{list(api.Byte), list(api.Byte)},
		{list(api.Byte, insert(one), del(one, two), keep(1), keep(2)), list(api.Byte, del(one, two), insert(one), keep(3))},
		{list(api.Byte, insert(one), insert(two), del(one), insert(three), del(two)), list(api.Byte, del(one, two), insert(one, two, three))},
		{list(api.Byte, keep(1), insert(one), keep(1), del(two), keep(1)), list(api.Byte, keep(1), insert(one), keep(1), del(two), keep(1))},
		{list(api.Byte, keep(1), insert(one), del(two), keep(1), insert(three)), list(api.Byte, keep(1), del(two), insert(one), keep(1), insert(three))},
		{list(api.Pointers, del(tr("{1,0}")), del(api.Tree{}), insert(tr("{0}"))), list(api.Pointers, del(tr("{1}"), api.Tree{}), insert(tr("{}")))},
		{list(api.Pointers, keep(1), descend(st), keep(1)), list(api.Pointers, keep(1), descend(st), keep(1))},
		{list(api.Composite, keep(1), descend(st), keep(1)), list(api.Composite, keep(3))},
		{list(api.Composite, descend(st), descend(words(w)), descend(st)), list(api.Composite, keep(1), descend(words(w)), keep(1))},
		{list(api.Composite, insert(tr("{1}")), descend(st), insert(tr("{2}"))), list(api.Composite, insert(tr("{1}")), keep(1), insert(tr("{2}")))},
		{list(api.Composite, insert(tr("{1}")), descend(words(w)), del(tr("{2}"))), list(api.Composite, insert(tr("{1}")), descend(words(w)), del(tr("{2}")))},
		{list(api.Composite, descend(replace("{1,0}", "{1}"))), list(api.Composite, descend(replace("{1}", "{1}")))},
		{list(api.Pointers, descend(list(api.Pointers, keep(1), keep(1)))), list(api.Pointers, descend(list(api.Pointers, keep(2))))},
		{list(api.Pointers, descend(kids(api.KidEdit{At: 0, E: list(api.Composite, descend(st))}))), list(api.Pointers, descend(kids(api.KidEdit{At: 0, E: list(api.Composite, keep(1))})))},
	} {
		if got := normal.Edit(c.e); !exact(got, c.want) {
			t.Errorf("%+v is written %+v, not %+v", c.e, got, c.want)
		}
		if got := normal.Ops(c.e.List, c.e.Ops); !exact(list(0, got...), list(0, c.want.Ops...)) {
			t.Errorf("Ops of %+v: %+v", c.e, got)
		}
	}
}

// 22.2
func TestIdle(t *testing.T) {
	for _, c := range []struct {
		list int
		e    api.Edit
		want bool
	}{
		{api.Pointers, api.Edit{}, true}, {api.Composite, api.Edit{}, true}, {api.Byte, api.Edit{}, true},
		{api.Composite, words(), true}, {api.Pointers, words(), false},
		{api.Composite, words(api.WordEdit{Mask: 1}), false}, {api.Composite, kids(api.KidEdit{E: words()}), false},
		{api.Composite, replace("{}", "{}"), false}, {api.Pointers, replace("_", "_"), false}, {api.Composite, list(api.Byte), false}, {api.Pointers, list(api.Byte), false},
	} {
		if normal.Idle(c.list, c.e) != c.want {
			t.Errorf("Idle(%d, %+v): %v", c.list, c.e, !c.want)
		}
	}
}

// 22.3
func TestManyEdits(t *testing.T) {
	changed := 0
	for seed := range 4000 {
		s := sample.From(seed)
		x := s.Tree(4)
		e := s.Edit(x, 4)
		n := normal.Edit(e)
		if !edit.Right(n) || !exact(normal.Edit(n), n) {
			t.Fatalf("%+v is written %+v", e, n)
		}
		if !exact(n, e) {
			changed++
		}
		for _, y := range []api.Tree{x, s.Like(x, 4), s.Like(x, 4)} {
			a, ok := apply.Edit(e, y)
			b, also := apply.Edit(n, y)
			if ok != also || text.Print(a) != text.Print(b) {
				t.Fatalf("%s by %+v: %s, %v, as it is written %s, %v", text.Print(y), e, text.Print(a), ok, text.Print(b), also)
			}
		}
	}
	if changed < 500 {
		t.Errorf("only %d edits are written otherwise", changed)
	}
}

// R4
func TestNothingIsChanged(t *testing.T) {
	given := func() api.Edit {
		l := []api.Tree{atom(1), atom(2)}
		return list(api.Byte, del(l[:1]...), del(atom(3)), keep(1), keep(2))
	}
	e := given()
	behind := e.Ops[0].L[:2]
	normal.Edit(e)
	if !exact(e, given()) || behind[1].Words[0] != 2 {
		t.Errorf("it is changed to %+v", e)
	}
}
