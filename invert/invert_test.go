package invert_test

import (
	"testing"

	"cento/api"
	"cento/apply"
	"cento/edit"
	"cento/invert"
	"cento/normal"
	"cento/sample"
	"cento/text"
	"cento/tree"
)

// Short forms of what the tests are written with.
var (
	tr, replace, list, keep     = sample.TreeOf, sample.Replace, sample.Ops, sample.Keep
	del, insert, descend, words = sample.Delete, sample.Insert, sample.Descend, sample.Words
	kids, atom                  = sample.Kids, sample.Number
)

// 23.1
func TestEdit(t *testing.T) {
	there := words(api.WordEdit{At: 0, Mask: 1, Old: 5, New: 6}, api.WordEdit{At: 7, Mask: 2, Old: 0x500, New: 0})
	back := words(api.WordEdit{At: 0, Mask: 1, Old: 6, New: 5}, api.WordEdit{At: 7, Mask: 2, Old: 0, New: 0x500})
	for _, c := range []struct{ e, want api.Edit }{
		{api.Edit{}, api.Edit{}},
		{replace("{1,0}", "y[5]"), replace("y[5]", "{1}")},
		{words(), words()},
		{there, back},
		{kids(api.KidEdit{At: 3, E: there}, api.KidEdit{At: 4, E: replace("_", "{}")}), kids(api.KidEdit{At: 3, E: back}, api.KidEdit{At: 4, E: replace("{}", "_")})},
		{list(api.Byte, insert(atom(1)), keep(1)), list(api.Byte, del(atom(1)), keep(1))},
		{list(api.Byte, del(atom(1)), insert(atom(2), atom(3)), keep(4)), list(api.Byte, del(atom(2), atom(3)), insert(atom(1)), keep(4))},
		{list(api.Composite, keep(1), descend(there), descend(words())), list(api.Composite, keep(1), descend(back), keep(1))},
		{list(api.Pointers, descend(list(api.Byte, insert(atom(1)))), descend(replace("_", "{1}"))), list(api.Pointers, descend(list(api.Byte, del(atom(1)))), descend(replace("{1}", "_")))},
	} {
		if got := invert.Edit(c.e); !edit.Equal(got, c.want) {
			t.Errorf("%+v is turned to %+v", c.e, got)
		}
	}
}

// 23.2
func TestItIsTheConverse(t *testing.T) {
	for seed := range 4000 {
		s := sample.From(seed)
		x := s.Tree(4)
		e := s.Edit(x, 4)
		back := invert.Edit(e)
		if !edit.Right(back) || !edit.Equal(normal.Edit(back), back) || !edit.Equal(invert.Edit(back), normal.Edit(e)) {
			t.Fatalf("%+v is turned to %+v", e, back)
		}
		y, ok := apply.Edit(e, x)
		if !ok {
			t.Fatalf("%s by %+v", text.Print(x), e)
		}
		z, ok := apply.Edit(back, y)
		if !ok || text.Print(z) != text.Print(tree.Norm(x)) {
			t.Fatalf("%s by %+v: %s, and back: %s, %v", text.Print(x), e, text.Print(y), text.Print(z), ok)
		}
		// Turned round, it is defined on what becomes of some tree only.
		other := s.Like(y, 4)
		if z, ok = apply.Edit(back, other); ok {
			if again, ok := apply.Edit(e, z); !ok || !tree.Equal(again, other) {
				t.Fatalf("%s by %+v: %s, and there: %s, %v", text.Print(other), back, text.Print(z), text.Print(again), ok)
			}
		}
	}
}
