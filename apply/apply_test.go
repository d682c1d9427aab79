package apply_test

import (
	"testing"

	"cento/api"
	"cento/apply"
	"cento/sample"
	"cento/text"
	"cento/tree"
)

// Short forms of what the tests are written with.
var (
	tr, replace, list, keep     = sample.TreeOf, sample.Replace, sample.Ops, sample.Keep
	del, insert, descend, words = sample.Delete, sample.Insert, sample.Descend, sample.Words
	kids, atom                  = sample.Kids, sample.Number
)

// 21.1
func TestEdit(t *testing.T) {
	w := words(api.WordEdit{At: 0, Mask: 1, Old: 5, New: 6})
	high := words(api.WordEdit{At: 1, Mask: 0x82, Old: 0x0100000000000200, New: 0x0300000000000400})
	grow := words(api.WordEdit{At: 3, Mask: 1, New: 7})
	last := words(api.WordEdit{At: 65534, Mask: 1})
	for _, c := range []struct {
		name  string
		e     api.Edit
		t     string
		want  string
		isNot bool
	}{
		{name: "Same", t: "{1,0|y[5],_}", want: "{1|y[5]}"},
		{name: "Same of nothing", t: "_", want: "_"},
		{name: "Replace", e: replace("{1,0}", "y[5]"), t: "{1|_}", want: "y[5]"},
		{name: "Replace tells a Norm", e: replace("_", "{1,0|_}"), t: "_", want: "{1}"},
		{name: "Replace of something else", e: replace("{1}", "y[5]"), t: "{2}", isNot: true},
		{name: "Replace of nothing, by itself", e: replace("_", "_"), t: "_", want: "_"},
		{name: "Replace of nothing, on something", e: replace("_", "_"), t: "{}", isNot: true},

		{name: "a word", e: w, t: "{5}", want: "{6}"},
		{name: "another word", e: w, t: "{7}", isNot: true},
		{name: "other bytes stay", e: w, t: "{1105,2}", want: "{1106,2}"},
		{name: "a word that is not there", e: w, t: "{}", isNot: true},
		{name: "a list has no words", e: w, t: "y[5]", isNot: true},
		{name: "nothing has no words", e: w, t: "_", isNot: true},
		{name: "another high byte", e: high, t: "{1,2aabbccddee0211}", isNot: true},
		{name: "high bytes", e: high, t: "{1,1aabbccddee0211}", want: "{1,3aabbccddee0411}"},
		{name: "words grow", e: grow, t: "{1}", want: "{1,0,0,7}"},
		{name: "words shrink", e: words(api.WordEdit{At: 1, Mask: 1, Old: 7}), t: "{1,7}", want: "{1}"},
		{name: "the last word, by itself", e: last, t: "{1}", want: "{1}"},
		{name: "StructEdit of nothing", e: words(), t: "{1,0|_}", want: "{1}"},
		{name: "StructEdit of nothing, on nothing", e: words(), t: "_", isNot: true},
		{name: "StructEdit of nothing, on a list", e: words(), t: "c[]", isNot: true},

		{name: "a kid", e: kids(api.KidEdit{At: 1, E: w}), t: "{|_,{5}}", want: "{|_,{6}}"},
		{name: "another kid", e: kids(api.KidEdit{At: 1, E: w}), t: "{|{5},_}", isNot: true},
		{name: "a kid that is not there", e: kids(api.KidEdit{At: 2, E: replace("_", "{1}")}), t: "{}", want: "{|_,_,{1}}"},
		{name: "a kid that is not there is none", e: kids(api.KidEdit{At: 2, E: w}), t: "{}", isNot: true},
		{name: "a kid goes", e: kids(api.KidEdit{At: 1, E: replace("{1}", "_")}), t: "{|y[],{1}}", want: "{|y[]}"},
		{name: "the last kid, by itself", e: kids(api.KidEdit{At: 65534, E: replace("_", "_")}), t: "{}", want: "{}"},

		{name: "steps", e: list(api.Byte, keep(2), del(atom(5)), insert(atom(6), atom(7))), t: "y[1,2,5]", want: "y[1,2,6,7]"},
		{name: "too few kids", e: list(api.Byte, keep(2)), t: "y[1]", isNot: true},
		{name: "too many kids", e: list(api.Byte, keep(2)), t: "y[1,2,3]", isNot: true},
		{name: "another list", e: list(api.Byte, keep(2)), t: "t[1,2]", isNot: true},
		{name: "no list", e: list(api.Byte), t: "{}", isNot: true},
		{name: "an empty list", e: list(api.Byte), t: "y[]", want: "y[]"},
		{name: "no steps, on kids", e: list(api.Byte), t: "y[1]", isNot: true},
		{name: "Delete in order", e: list(api.Byte, del(atom(1), atom(2))), t: "y[1,2]", want: "y[]"},
		{name: "Delete out of order", e: list(api.Byte, del(atom(2), atom(1))), t: "y[1,2]", isNot: true},
		{name: "Delete of too many", e: list(api.Byte, del(atom(1), atom(2))), t: "y[1]", isNot: true},
		{name: "Delete of what means the same", e: list(api.Pointers, del(tr("{1,0}"), tr("_"))), t: "p[{1|_},_]", want: "p[]"},
		{name: "Delete of something else", e: list(api.Pointers, del(tr("{}"))), t: "p[_]", isNot: true},
		{name: "Insert ahead and behind", e: list(api.Void, insert(atom(0)), keep(1), insert(atom(0))), t: "v[0]", want: "v[0,0,0]"},
		{name: "Descend", e: list(api.Composite, keep(1), descend(w)), t: "c[{5},{5,1}]", want: "c[{5},{6,1}]"},
		{name: "Descend where it is not defined", e: list(api.Composite, descend(w), keep(1)), t: "c[{4},{5}]", isNot: true},
		{name: "Descend behind the end", e: list(api.Composite, keep(1), descend(w)), t: "c[{5}]", isNot: true},
		{name: "Descend into nothing", e: list(api.Pointers, descend(replace("_", "y[1]"))), t: "p[_]", want: "p[y[1]]"},
		{name: "kids' Norms", e: list(api.Pointers, keep(1), insert(tr("{0}"))), t: "p[{1,0}]", want: "p[{1},{}]"},
	} {
		got, ok := apply.Edit(c.e, tr(c.t))
		if ok == c.isNot || ok && text.Print(got) != c.want || !ok && (got.Kind != 0 || len(got.Words)+len(got.Kids) > 0) {
			t.Errorf("%s: %s, %v, not %s, %v", c.name, text.Print(got), ok, c.want, !c.isNot)
		}
	}
}

// 21.2
func TestManyEdits(t *testing.T) {
	undefined := 0
	for seed := range 4000 {
		s := sample.From(seed)
		x := s.Tree(4)
		y := s.Like(x, 4)
		e := s.Edit(x, 4)
		given := text.Print(x)
		a, ok := apply.Edit(e, x)
		if !ok || text.Print(tree.Norm(a)) != text.Print(a) {
			t.Fatalf("%s by %+v: %s, %v", text.Print(x), e, text.Print(a), ok)
		}
		n, ok := apply.Edit(e, tree.Norm(x))
		if !ok || text.Print(n) != text.Print(a) {
			t.Fatalf("%s by %+v: %s of its Norm, %v", text.Print(x), e, text.Print(n), ok)
		}
		b, ok := apply.Edit(e, y)
		if !ok {
			undefined++
		}
		if ok && tree.Equal(a, b) != tree.Equal(x, y) {
			t.Fatalf("%s and %s by %+v: %s and %s", text.Print(x), text.Print(y), e, text.Print(a), text.Print(b))
		}
		if text.Print(x) != given {
			t.Fatalf("%s is changed to %s", given, text.Print(x))
		}
	}
	if undefined < 500 || undefined > 3500 {
		t.Errorf("%d of 4000 edits are not defined on what is like their tree", undefined)
	}
}
