package edit_test

import (
	"math"
	"testing"

	"cento/api"
	"cento/edit"
	"cento/sample"
)

// Short forms of what the tests are written with.
var (
	tr, replace, list, keep     = sample.TreeOf, sample.Replace, sample.Ops, sample.Keep
	del, insert, descend, words = sample.Delete, sample.Insert, sample.Descend, sample.Words
	kids, atom                  = sample.Kids, sample.Number
)

// lists tells n edits of lists within one another.
func lists(n int) api.Edit {
	e := list(api.Pointers)
	for range n - 1 {
		e = list(api.Pointers, descend(e))
	}
	return e
}

// nested tells n edits within one another.
func nested(n int) api.Edit {
	e := api.Edit{Kind: api.StructEdit}
	for range n - 1 {
		e = kids(api.KidEdit{At: 0, E: e})
	}
	return e
}

var null, same = api.Tree{}, api.Edit{}

// rightOnes are edits of all kinds that may be.
func rightOnes() []api.Edit {
	st := api.Edit{Kind: api.StructEdit}
	return []api.Edit{
		same, replace("_", "_"), replace("{1,0|_}", "y[5]"), st,
		words(api.WordEdit{At: 0, Mask: 1, Old: 5, New: 6}), words(api.WordEdit{At: 0, Mask: 1, Old: 5, New: 5}),
		words(api.WordEdit{At: 0, Mask: 0x81, Old: 0xff000000000000ff, New: 0x01}, api.WordEdit{At: 65534, Mask: 0xff, New: math.MaxUint64}),
		kids(api.KidEdit{At: 0, E: replace("_", "{}")}, api.KidEdit{At: 65534, E: st}),
		list(api.Void), list(api.Byte, keep(2), del(atom(5)), insert(atom(6), atom(7))), list(api.Void, insert(atom(0), atom(0))), list(api.Eight, del(atom(math.MaxUint64))),
		list(api.Byte, insert(atom(1)), insert(atom(2)), del(atom(3)), keep(1), keep(1)), list(api.Byte, keep(api.MaxList-1)),
		list(api.Pointers, del(null, tr("y[5]"), tr("{1,0|_}"))), list(api.Pointers, descend(replace("_", "{}")), descend(st), descend(list(api.Pointers))), list(api.Pointers, insert(sample.Nested(63))),
		list(api.Composite, del(tr("{1,0}")), descend(st), descend(replace("{1}", "{}")), keep(7)),
		nested(64), lists(64), replace("_", "p[]"), {Kind: api.Replace, Old: sample.Nested(64), New: sample.Nested(64)},
	}
}

// 20.1
func TestRight(t *testing.T) {
	for _, e := range rightOnes() {
		if !edit.Right(e) {
			t.Errorf("%+v is refused", e)
		}
	}
	st := api.Edit{Kind: api.StructEdit}
	w := api.WordEdit{At: 3, Mask: 1, Old: 5, New: 6}
	k := api.KidEdit{At: 3, E: st}
	for name, e := range map[string]api.Edit{
		"no kind":                         {Kind: 4},
		"a kind below 0":                  {Kind: -1},
		"Same with Old":                   {Old: tr("{}")},
		"Same with New's words":           {New: api.Tree{Words: []uint64{1}}},
		"Same with New's kids":            {New: api.Tree{Kids: []api.Tree{null}}},
		"Same with words":                 {Words: []api.WordEdit{w}},
		"Same with kids":                  {Kids: []api.KidEdit{k}},
		"Same with a list":                {List: api.Byte},
		"Same with steps":                 {Ops: []api.Op{keep(1)}},
		"Replace with words":              {Kind: api.Replace, Words: []api.WordEdit{w}},
		"Replace with kids":               {Kind: api.Replace, Kids: []api.KidEdit{k}},
		"Replace with a list":             {Kind: api.Replace, List: api.Byte},
		"Replace with steps":              {Kind: api.Replace, Ops: []api.Op{keep(1)}},
		"Replace of an atom":              {Kind: api.Replace, Old: atom(1)},
		"Replace by an atom":              {Kind: api.Replace, New: atom(1)},
		"Replace of what is not right":    {Kind: api.Replace, Old: api.Tree{Kind: api.Bit, Kids: []api.Tree{atom(2)}}},
		"Replace by what is not right":    {Kind: api.Replace, New: api.Tree{Words: []uint64{1}}},
		"Replace by what is too deep":     {Kind: api.Replace, New: sample.Nested(65)},
		"StructEdit with Old":             {Kind: api.StructEdit, Old: tr("{}")},
		"StructEdit with New":             {Kind: api.StructEdit, New: tr("{}")},
		"StructEdit with a list":          {Kind: api.StructEdit, List: api.Byte},
		"StructEdit with steps":           {Kind: api.StructEdit, Ops: []api.Op{keep(1)}},
		"a word below 0":                  words(api.WordEdit{At: -1, Mask: 1}),
		"word 65535":                      words(api.WordEdit{At: 65535, Mask: 1}),
		"a word twice":                    words(w, w),
		"words the other way round":       words(w, api.WordEdit{At: 2, Mask: 1}),
		"a mask of nothing":               words(api.WordEdit{At: 0}),
		"Old beyond the mask":             words(api.WordEdit{At: 0, Mask: 1, Old: 0x100}),
		"New beyond the mask":             words(api.WordEdit{At: 0, Mask: 2, New: 1}),
		"a kid below 0":                   kids(api.KidEdit{At: -1, E: st}),
		"kid 65535":                       kids(api.KidEdit{At: 65535, E: st}),
		"a kid twice":                     kids(k, k),
		"kids the other way round":        kids(k, api.KidEdit{At: 2, E: st}),
		"a kid by Same":                   kids(api.KidEdit{At: 0}),
		"a kid by what is not right":      kids(api.KidEdit{At: 0, E: words(w, w)}),
		"ListEdit with Old":               {Kind: api.ListEdit, List: api.Byte, Old: tr("{}")},
		"ListEdit with New":               {Kind: api.ListEdit, List: api.Byte, New: tr("{}")},
		"ListEdit with words":             {Kind: api.ListEdit, List: api.Byte, Words: []api.WordEdit{w}},
		"ListEdit with kids":              {Kind: api.ListEdit, List: api.Byte, Kids: []api.KidEdit{k}},
		"ListEdit of no list":             list(api.Struct),
		"ListEdit of atoms":               list(api.Atom),
		"ListEdit of nothing":             list(0),
		"a step of no kind":               list(api.Byte, api.Op{Kind: 4}),
		"a step below 0":                  list(api.Byte, api.Op{Kind: -1}),
		"Keep 0":                          list(api.Byte, keep(0)),
		"Keep below 0":                    list(api.Byte, keep(-1)),
		"Keep of too many":                list(api.Byte, keep(api.MaxList+1)),
		"Keep of the most":                list(api.Byte, keep(math.MaxInt)),
		"Keep with kids":                  list(api.Byte, api.Op{Kind: api.Keep, N: 1, L: []api.Tree{atom(1)}}),
		"Keep with an edit":               list(api.Byte, api.Op{Kind: api.Keep, N: 1, E: st}),
		"Keep with Same that has more":    list(api.Byte, api.Op{Kind: api.Keep, N: 1, E: api.Edit{List: 4}}),
		"Delete of none":                  list(api.Byte, del()),
		"Delete with a number":            list(api.Byte, api.Op{Kind: api.Delete, N: 1, L: []api.Tree{atom(1)}}),
		"Delete with an edit":             list(api.Byte, api.Op{Kind: api.Delete, L: []api.Tree{atom(1)}, E: st}),
		"Insert of none":                  list(api.Byte, insert()),
		"Insert with a number":            list(api.Byte, api.Op{Kind: api.Insert, N: 1, L: []api.Tree{atom(1)}}),
		"Insert with an edit":             list(api.Byte, api.Op{Kind: api.Insert, L: []api.Tree{atom(1)}, E: st}),
		"Delete of too great a number":    list(api.Byte, del(atom(1), atom(256))),
		"Insert of nothing among bytes":   list(api.Byte, insert(null)),
		"Insert of an atom of two words":  list(api.Byte, insert(api.Tree{Kind: api.Atom, Words: []uint64{1, 2}})),
		"Delete of an atom among others":  list(api.Pointers, del(atom(1))),
		"Insert of what is not right":     list(api.Pointers, insert(api.Tree{Words: []uint64{1}})),
		"Insert of a list among structs":  list(api.Composite, insert(tr("y[5]"))),
		"Delete of nothing among structs": list(api.Composite, del(null)),
		"Descend into a byte":             list(api.Byte, descend(replace("_", "{}"))),
		"Descend by Same":                 list(api.Pointers, descend(same)),
		"Descend with a number":           list(api.Pointers, api.Op{Kind: api.Descend, N: 1, E: st}),
		"Descend with kids":               list(api.Pointers, api.Op{Kind: api.Descend, L: []api.Tree{null}, E: st}),
		"Descend by what is not right":    list(api.Pointers, descend(words(w, w))),
		"Descend into a struct by Same":   list(api.Composite, descend(same)),
		"Descend into a struct as a list": list(api.Composite, descend(list(api.Byte))),
		"Descend from a struct to a list": list(api.Composite, descend(replace("{}", "y[5]"))),
		"Descend from nothing":            list(api.Composite, descend(replace("_", "{}"))),
		"too many ahead":                  list(api.Byte, keep(api.MaxList)),
		"too many ahead, in two":          list(api.Byte, keep(api.MaxList-1), del(atom(1))),
		"too many behind":                 list(api.Byte, keep(api.MaxList-1), insert(atom(1))),
		"65 within one another":           nested(65),
		"1000 within one another":         nested(1000),
		"65 of lists within one another":  lists(65),
	} {
		if edit.Right(e) {
			t.Errorf("%s: it is taken", name)
		}
	}
	for seed := range 2000 {
		s := sample.From(seed)
		if e := s.Edit(s.Tree(4), 4); !edit.Right(e) {
			t.Fatalf("seed %d: %+v is refused", seed, e)
		}
	}
}

// 20.1
func TestLengths(t *testing.T) {
	for _, c := range []struct {
		e             api.Edit
		ahead, behind int
	}{
		{same, 0, 0}, {api.Edit{Kind: api.StructEdit}, 0, 0}, {list(api.Byte), 0, 0},
		{list(api.Byte, keep(2), del(atom(5)), insert(atom(6), atom(7))), 3, 4},
		{list(api.Pointers, insert(null), descend(nested(1)), del(null, null), keep(9), descend(nested(1))), 13, 12},
		{list(api.Byte, keep(api.MaxList-1)), api.MaxList - 1, api.MaxList - 1},
		{list(api.Byte, keep(api.MaxList), keep(5)), api.MaxList, api.MaxList},
		{list(api.Byte, keep(api.MaxList), del(atom(1))), api.MaxList, api.MaxList},
	} {
		if a, b := edit.Lengths(c.e); a != c.ahead || b != c.behind {
			t.Errorf("Lengths of %+v: %d, %d", c.e, a, b)
		}
	}
}

// 20.2
func TestEqual(t *testing.T) {
	ones := rightOnes()
	for i, a := range ones {
		for j, b := range ones {
			if edit.Equal(a, b) != (i == j) {
				t.Errorf("Equal(%+v, %+v): %v", a, b, i != j)
			}
		}
	}
	w := api.WordEdit{At: 3, Mask: 1, Old: 5, New: 6}
	for _, x := range []api.WordEdit{{At: 4, Mask: 1, Old: 5, New: 6}, {At: 3, Mask: 3, Old: 5, New: 6}, {At: 3, Mask: 1, Old: 4, New: 6}, {At: 3, Mask: 1, Old: 5, New: 7}} {
		if edit.Equal(words(w), words(x)) {
			t.Errorf("%+v is the same as %+v", w, x)
		}
	}
	for _, c := range []struct {
		a, b api.Edit
		want bool
	}{
		{replace("{1,0}", "{|_}"), replace("{1}", "{}"), true},
		{replace("{1}", "{}"), replace("{2}", "{}"), false},
		{replace("{1}", "{}"), replace("{1}", "_"), false},
		{list(api.Pointers, del(tr("{1,0}"), null)), list(api.Pointers, del(tr("{1}"), null)), true},
		{list(api.Pointers, del(tr("{1,0}"), null)), list(api.Pointers, del(tr("{1}"))), false},
		{list(api.Pointers, del(null)), list(api.Pointers, insert(null)), false},
		{list(api.Pointers, del(null), del(null)), list(api.Pointers, del(null, null)), false},
		{list(api.Pointers, insert(null)), list(api.Pointers, insert(tr("{}"))), false},
		{list(api.Byte), list(api.Two), false},
		{list(api.Byte, keep(1)), list(api.Byte, keep(2)), false},
		{list(api.Byte, keep(1), keep(1)), list(api.Byte, keep(2)), false},
		{list(api.Composite, descend(replace("{1,0}", "{}"))), list(api.Composite, descend(replace("{1}", "{0}"))), true},
		{list(api.Composite, descend(words(w))), list(api.Composite, descend(words())), false},
		{kids(api.KidEdit{At: 1, E: words(w)}), kids(api.KidEdit{At: 2, E: words(w)}), false},
		{kids(api.KidEdit{At: 1, E: words(w)}), kids(api.KidEdit{At: 1, E: words()}), false},
		{kids(api.KidEdit{At: 1, E: replace("_", "{0}")}), kids(api.KidEdit{At: 1, E: replace("_", "{}")}), true},
		{words(w), words(w, api.WordEdit{At: 4, Mask: 1}), false},
		{same, api.Edit{Words: []api.WordEdit{}, Kids: []api.KidEdit{}, Ops: []api.Op{}}, true},
	} {
		if edit.Equal(c.a, c.b) != c.want || edit.Equal(c.b, c.a) != c.want {
			t.Errorf("Equal(%+v, %+v): %v", c.a, c.b, !c.want)
		}
	}
}

// 20.2
func TestCount(t *testing.T) {
	w := api.WordEdit{At: 3, Mask: 1, Old: 5, New: 6}
	for _, c := range []struct {
		e    api.Edit
		want int
	}{
		{same, 1}, {replace("_", "{1|{2}}"), 1}, {words(), 1}, {words(w), 2}, {words(w, api.WordEdit{At: 4, Mask: 1}), 3},
		{kids(api.KidEdit{At: 0, E: words(w)}, api.KidEdit{At: 1, E: replace("_", "{}")}), 4},
		{list(api.Byte), 1}, {list(api.Byte, keep(9), del(atom(1), atom(2)), insert(atom(3))), 4},
		{list(api.Composite, descend(words(w)), keep(1), descend(words())), 1 + 3 + 2 + 1},
		{nested(64), 64},
	} {
		if n := edit.Count(c.e); n != c.want {
			t.Errorf("Count of %+v: %d, not %d", c.e, n, c.want)
		}
	}
}
