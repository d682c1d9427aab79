package invert_test

import (
	"testing"

	"cento/api"
	"cento/apply"
	"cento/edit"
	"cento/invert"
	"cento/normal"
	"cento/sample"
	"cento/text"
	"cento/tree"
)

func tr(t *testing.T, s string) api.Tree {
	t.Helper()
	x, err := text.Parse(s)
	if err != api.OK {
		t.Fatalf("%s is no tree's text", s)
	}
	return x
}

func replace(t *testing.T, old, now string) api.Edit {
	t.Helper()
	return api.Edit{Kind: api.Replace, Old: tr(t, old), New: tr(t, now)}
}

func list(kind int, ops ...api.Op) api.Edit {
	return api.Edit{Kind: api.ListEdit, List: kind, Ops: ops}
}

func keep(n int) api.Op           { return api.Op{Kind: api.Keep, N: n} }
func del(l ...api.Tree) api.Op    { return api.Op{Kind: api.Delete, L: l} }
func insert(l ...api.Tree) api.Op { return api.Op{Kind: api.Insert, L: l} }
func descend(e api.Edit) api.Op   { return api.Op{Kind: api.Descend, E: e} }

func words(l ...api.WordEdit) api.Edit { return api.Edit{Kind: api.StructEdit, Words: l} }
func kids(l ...api.KidEdit) api.Edit   { return api.Edit{Kind: api.StructEdit, Kids: l} }

func atom(n uint64) api.Tree { return api.Tree{Kind: api.Atom, Words: []uint64{n}} }

// 23.1
func TestEdit(t *testing.T) {
	there := words(api.WordEdit{At: 0, Mask: 1, Old: 5, New: 6}, api.WordEdit{At: 7, Mask: 2, Old: 0x500, New: 0})
	back := words(api.WordEdit{At: 0, Mask: 1, Old: 6, New: 5}, api.WordEdit{At: 7, Mask: 2, Old: 0, New: 0x500})
	for _, c := range []struct{ e, want api.Edit }{
		{api.Edit{}, api.Edit{}},
		{replace(t, "{1,0}", "y[5]"), replace(t, "y[5]", "{1}")},
		{words(), words()},
		{there, back},
		{kids(api.KidEdit{At: 3, E: there}, api.KidEdit{At: 4, E: replace(t, "_", "{}")}), kids(api.KidEdit{At: 3, E: back}, api.KidEdit{At: 4, E: replace(t, "{}", "_")})},
		{list(api.Byte, insert(atom(1)), keep(1)), list(api.Byte, del(atom(1)), keep(1))},
		{list(api.Byte, del(atom(1)), insert(atom(2), atom(3)), keep(4)), list(api.Byte, del(atom(2), atom(3)), insert(atom(1)), keep(4))},
		{list(api.Composite, keep(1), descend(there), descend(words())), list(api.Composite, keep(1), descend(back), keep(1))},
		{list(api.Pointers, descend(list(api.Byte, insert(atom(1)))), descend(replace(t, "_", "{1}"))), list(api.Pointers, descend(list(api.Byte, del(atom(1)))), descend(replace(t, "{1}", "_")))},
	} {
		if got := invert.Edit(c.e); !edit.Equal(got, c.want) {
			t.Errorf("%+v is turned to %+v", c.e, got)
		}
	}
}

// 23.2
func TestItIsTheConverse(t *testing.T) {
	for seed := range 4000 {
		s := sample.From(seed)
		x := s.Tree(4)
		e := s.Edit(x, 4)
		back := invert.Edit(e)
		if !edit.Right(back) || !edit.Equal(normal.Edit(back), back) || !edit.Equal(invert.Edit(back), normal.Edit(e)) {
			t.Fatalf("%+v is turned to %+v", e, back)
		}
		y, ok := apply.Edit(e, x)
		if !ok {
			t.Fatalf("%s by %+v", text.Print(x), e)
		}
		z, ok := apply.Edit(back, y)
		if !ok || text.Print(z) != text.Print(tree.Norm(x)) {
			t.Fatalf("%s by %+v: %s, and back: %s, %v", text.Print(x), e, text.Print(y), text.Print(z), ok)
		}
		// Turned round, it is defined on what becomes of some tree only.
		other := s.Like(y, 4)
		if z, ok = apply.Edit(back, other); ok {
			if again, ok := apply.Edit(e, z); !ok || !tree.Equal(again, other) {
				t.Fatalf("%s by %+v: %s, and there: %s, %v", text.Print(other), back, text.Print(z), text.Print(again), ok)
			}
		}
	}
}
