package compose_test

import (
	"testing"

	"cento/api"
	"cento/apply"
	"cento/compose"
	"cento/edit"
	"cento/invert"
	"cento/normal"
	"cento/sample"
	"cento/text"
	"cento/tree"
)

// Short forms of what the tests are written with.
var (
	tr, replace, list, keep     = sample.TreeOf, sample.Replace, sample.Ops, sample.Keep
	del, insert, descend, words = sample.Delete, sample.Insert, sample.Descend, sample.Words
	kids, word, atom            = sample.Kids, sample.Byte, sample.Number
)

// 25.2
func TestWord(t *testing.T) {
	for _, c := range []struct {
		p, q, want api.WordEdit
		ok         bool
	}{
		{api.WordEdit{At: 3, Mask: 1, Old: 5, New: 6}, api.WordEdit{At: 3, Mask: 1, Old: 6, New: 7}, api.WordEdit{At: 3, Mask: 1, Old: 5, New: 7}, true},
		{api.WordEdit{At: 3, Mask: 1, Old: 5, New: 6}, api.WordEdit{At: 3, Mask: 1, Old: 5, New: 7}, api.WordEdit{}, false},
		{api.WordEdit{At: 3, Mask: 1, Old: 5, New: 6}, api.WordEdit{At: 3, Mask: 2, Old: 0x700, New: 0x800}, api.WordEdit{At: 3, Mask: 3, Old: 0x705, New: 0x806}, true},
		{api.WordEdit{Mask: 3, Old: 0x0102, New: 0x0304}, api.WordEdit{Mask: 6, Old: 0x050300, New: 0x060700}, api.WordEdit{Mask: 7, Old: 0x050102, New: 0x060704}, true},
		{api.WordEdit{Mask: 3, Old: 0x0102, New: 0x0304}, api.WordEdit{Mask: 6, Old: 0x050400, New: 0x060700}, api.WordEdit{}, false},
		{api.WordEdit{At: 3, Mask: 1, Old: 5, New: 6}, api.WordEdit{At: 3, Mask: 1, Old: 6, New: 5}, api.WordEdit{At: 3, Mask: 1, Old: 5, New: 5}, true},
		{api.WordEdit{Mask: 0xff, Old: 1 << 63, New: 1<<63 | 1}, api.WordEdit{Mask: 0x80, Old: 1 << 63}, api.WordEdit{Mask: 0xff, Old: 1 << 63, New: 1}, true},
	} {
		if got, ok := compose.Word(c.p, c.q); got != c.want || ok != c.ok {
			t.Errorf("Word(%+v, %+v): %+v, %v", c.p, c.q, got, ok)
		}
	}
}

// 25.1
func TestEdit(t *testing.T) {
	one, two, three := atom(1), atom(2), atom(3)
	at := func(i int, e api.Edit) api.KidEdit { return api.KidEdit{At: i, E: e} }
	for _, c := range []struct {
		name       string
		p, q, want api.Edit
		isNot      bool
	}{
		{name: "Same and Same"},
		{name: "Same first, as it is written", q: list(api.Byte, insert(one), del(two)), want: list(api.Byte, del(two), insert(one))},
		{name: "Same second, as it is written", p: replace("{1,0}", "_"), want: replace("{1}", "_")},
		{name: "Replace and a StructEdit", p: replace("y[5]", "{1}"), q: word(1, 2), want: replace("y[5]", "{2}")},
		{name: "Replace and what is not defined", p: replace("y[5]", "{1}"), q: word(2, 3), isNot: true},
		{name: "Replace and Replace", p: replace("_", "{1}"), q: replace("{1,0}", "_"), want: replace("_", "_")},
		{name: "Replace and Replace of something else", p: replace("_", "{1}"), q: replace("{2}", "_"), isNot: true},
		{name: "a StructEdit and Replace", p: word(1, 2), q: replace("{2,3}", "_"), want: replace("{1,3}", "_")},
		{name: "a StructEdit and Replace of something else", p: word(1, 2), q: replace("{1}", "_"), isNot: true},
		{name: "a ListEdit and Replace", p: list(api.Byte, insert(one), keep(1)), q: replace("y[1,2]", "_"), want: replace("y[2]", "_")},
		{name: "a ListEdit and Replace of something else", p: list(api.Byte, insert(one), keep(1)), q: replace("y[1]", "_"), isNot: true},
		{name: "a StructEdit and a ListEdit", p: words(), q: list(api.Byte), isNot: true},
		{name: "a ListEdit and a StructEdit", p: list(api.Composite), q: words(), isNot: true},
		{name: "two lists", p: list(api.Byte), q: list(api.Two), isNot: true},

		{name: "words apart", p: words(api.WordEdit{At: 1, Mask: 1, Old: 5, New: 6}, api.WordEdit{At: 5, Mask: 1}), q: words(api.WordEdit{At: 0, Mask: 1}, api.WordEdit{At: 3, Mask: 1}), want: words(api.WordEdit{At: 0, Mask: 1}, api.WordEdit{At: 1, Mask: 1, Old: 5, New: 6}, api.WordEdit{At: 3, Mask: 1}, api.WordEdit{At: 5, Mask: 1})},
		{name: "a word of both", p: word(1, 2), q: word(2, 3), want: word(1, 3)},
		{name: "a word back", p: word(1, 2), q: word(2, 1), want: word(1, 1)},
		{name: "a word of both, apart", p: word(1, 2), q: word(1, 3), isNot: true},
		{name: "kids", p: kids(at(0, word(1, 2)), at(2, words())), q: kids(at(0, replace("{2}", "_")), at(1, words())), want: kids(at(0, replace("{1}", "_")), at(1, words()), at(2, words()))},
		{name: "a kid of both, apart", p: kids(at(0, word(1, 2))), q: kids(at(0, word(1, 2))), isNot: true},

		{name: "Insert and Delete", p: list(api.Byte, insert(one), keep(1)), q: list(api.Byte, del(one), keep(1)), want: list(api.Byte, keep(1))},
		{name: "Insert and Delete of something else", p: list(api.Byte, insert(one), keep(1)), q: list(api.Byte, del(two), keep(1)), isNot: true},
		{name: "Insert and Keep", p: list(api.Byte, insert(one, two), keep(1)), q: list(api.Byte, keep(1), del(two), keep(1)), want: list(api.Byte, insert(one), keep(1))},
		{name: "Keep and Delete", p: list(api.Byte, keep(2)), q: list(api.Byte, del(one), keep(1)), want: list(api.Byte, del(one), keep(1))},
		{name: "Delete and Insert", p: list(api.Byte, del(one), keep(1)), q: list(api.Byte, insert(two), keep(1)), want: list(api.Byte, del(one), insert(two), keep(1))},
		{name: "Delete ahead of Insert", p: list(api.Byte, keep(1), del(one)), q: list(api.Byte, insert(two), keep(1), insert(three)), want: list(api.Byte, insert(two), keep(1), del(one), insert(three))},
		{name: "Delete and Delete", p: list(api.Byte, del(one), keep(1)), q: list(api.Byte, del(two)), want: list(api.Byte, del(one, two))},
		{name: "too few kids", p: list(api.Byte, keep(2)), q: list(api.Byte, keep(1)), isNot: true},
		{name: "too many kids", p: list(api.Byte, del(one)), q: list(api.Byte, keep(1)), isNot: true},
		{name: "Insert and Descend", p: list(api.Pointers, insert(tr("{1}"))), q: list(api.Pointers, descend(word(1, 2))), want: list(api.Pointers, insert(tr("{2}")))},
		{name: "Insert and Descend into something else", p: list(api.Pointers, insert(tr("{2}"))), q: list(api.Pointers, descend(word(1, 2))), isNot: true},
		{name: "Descend and Delete", p: list(api.Composite, descend(word(1, 2))), q: list(api.Composite, del(tr("{2,7}"))), want: list(api.Composite, del(tr("{1,7}")))},
		{name: "Descend and Delete of something else", p: list(api.Composite, descend(word(1, 2))), q: list(api.Composite, del(tr("{1}"))), isNot: true},
		{name: "Descend and Descend", p: list(api.Composite, descend(word(1, 2))), q: list(api.Composite, descend(word(2, 3))), want: list(api.Composite, descend(word(1, 3)))},
		{name: "Descend and Descend, apart", p: list(api.Composite, descend(word(1, 2))), q: list(api.Composite, descend(word(3, 4))), isNot: true},
		{name: "Descend and Keep", p: list(api.Composite, descend(word(1, 2)), keep(1)), q: list(api.Composite, keep(2)), want: list(api.Composite, descend(word(1, 2)), keep(1))},
		{name: "Keep and Descend", p: list(api.Composite, keep(2)), q: list(api.Composite, keep(1), descend(word(1, 2))), want: list(api.Composite, keep(1), descend(word(1, 2)))},
		{name: "idle ones", p: list(api.Composite, descend(words()), keep(1)), q: list(api.Composite, keep(1), descend(words())), want: list(api.Composite, keep(2))},
	} {
		got, ok := compose.Edit(c.p, c.q)
		if ok == c.isNot || !edit.Equal(got, c.want) {
			t.Errorf("%s: %+v, %v, not %+v", c.name, got, ok, c.want)
		}
	}
}

// 25.2
func TestSome(t *testing.T) {
	for _, c := range []struct {
		e    api.Edit
		want string
	}{
		{api.Edit{}, "_"},
		{replace("{1,0}", "y[5]"), "{1}"},
		{words(), "{}"},
		{words(api.WordEdit{At: 1, Mask: 1, Old: 5, New: 6}, api.WordEdit{At: 3, Mask: 2, Old: 0x700}), "{0,5,0,700}"},
		{kids(api.KidEdit{At: 1, E: words()}, api.KidEdit{At: 3, E: replace("y[1]", "_")}), "{|_,{},_,y[1]}"},
		{list(api.Byte, keep(2), del(atom(5), atom(6)), insert(atom(7)), keep(1)), "y[0,0,5,6,0]"},
		{list(api.Void), "v[]"},
		{list(api.Pointers, keep(1), descend(words(api.WordEdit{Mask: 1, Old: 5})), del(tr("y[1]"))), "p[_,{5},y[1]]"},
		{list(api.Composite, keep(2), descend(words(api.WordEdit{Mask: 1, Old: 5}))), "c[{},{},{5}]"},
	} {
		got := compose.Some(c.e)
		if !tree.Right(got) || !tree.Equal(got, tr(c.want)) {
			t.Errorf("Some of %+v: %s, not %s", c.e, text.Print(got), c.want)
		}
	}
	for seed := range 3000 {
		s := sample.From(seed)
		e := s.Edit(s.Tree(4), 4)
		x := compose.Some(e)
		if _, ok := apply.Edit(e, x); !ok || !tree.Right(x) {
			t.Fatalf("%+v is not defined on %s", e, text.Print(x))
		}
	}
}

// 25.3
func TestItIsTheComposition(t *testing.T) {
	both, none := 0, 0
	for seed := range 6000 {
		s := sample.From(seed)
		x := s.Tree(4)
		p := s.Edit(x, 4)
		y, ok := apply.Edit(p, x)
		if !ok {
			t.Fatalf("%s by %+v", text.Print(x), p)
		}
		other := s.Like(x, 4)
		for _, q := range []api.Edit{s.Edit(y, 4), s.Edit(s.Like(y, 4), 4), s.Edit(other, 4)} {
			e, ok := compose.Edit(p, q)
			trees := []api.Tree{x, other, s.Like(x, 4), compose.Some(p)}
			if ok {
				both++
				if !edit.Right(e) || !edit.Equal(e, normal.Edit(e)) {
					t.Fatalf("%+v and %+v: %+v", p, q, e)
				}
				some := compose.Some(e)
				if _, ok := apply.Edit(e, some); !ok {
					t.Fatalf("%+v is not defined on %s", e, text.Print(some))
				}
				trees = append(trees, some)
			} else {
				none++
				if !edit.Equal(e, api.Edit{}) {
					t.Fatalf("%+v and %+v: %+v beside false", p, q, e)
				}
				back, _ := apply.Edit(invert.Edit(p), compose.Some(q))
				trees = append(trees, back)
			}
			for _, z := range trees {
				a, okA := apply.Edit(p, z)
				b, okB := apply.Edit(q, a)
				c, okC := apply.Edit(e, z)
				if (ok && okC) != (okA && okB) || okA && okB && text.Print(b) != text.Print(c) {
					t.Fatalf("%s by %+v and %+v: %s, %v; by %+v: %s, %v", text.Print(z), p, q, text.Print(b), okA && okB, e, text.Print(c), okC)
				}
			}
		}
	}
	if both < 1000 || none < 1000 {
		t.Errorf("%d are made one, %d are not", both, none)
	}
}

// T1, T2
func TestThreeAndRound(t *testing.T) {
	all := 0
	for seed := range 4000 {
		s := sample.From(seed)
		x := s.Tree(4)
		p := s.Edit(x, 4)
		y, _ := apply.Edit(p, x)
		if s.Once(4) {
			y = s.Like(y, 4)
		}
		q := s.Edit(y, 4)
		z, _ := apply.Edit(q, y)
		if s.Once(4) {
			z = s.Like(z, 4)
		}
		r := s.Edit(z, 4)
		pq, ok1 := compose.Edit(p, q)
		qr, ok2 := compose.Edit(q, r)
		left, okL := compose.Edit(pq, r)
		right, okR := compose.Edit(p, qr)
		okL, okR = okL && ok1, okR && ok2
		if okL != okR {
			t.Fatalf("%+v, %+v, %+v: %v, %v", p, q, r, okL, okR)
		}
		for _, w := range []api.Tree{x, s.Like(x, 4), compose.Some(left)} {
			a, oka := apply.Edit(left, w)
			b, okb := apply.Edit(right, w)
			if okL && (oka != okb || text.Print(a) != text.Print(b)) {
				t.Fatalf("%+v, %+v, %+v, on %s: %s, %s", p, q, r, text.Print(w), text.Print(a), text.Print(b))
			}
		}
		if okL {
			all++
		}
		round, okRound := compose.Edit(invert.Edit(q), invert.Edit(p))
		if okRound != ok1 {
			t.Fatalf("%+v, %+v: %v, turned round %v", p, q, ok1, okRound)
		}
		for _, w := range []api.Tree{y, z, compose.Some(round)} {
			a, oka := apply.Edit(invert.Edit(pq), w)
			b, okb := apply.Edit(round, w)
			if ok1 && (oka != okb || text.Print(a) != text.Print(b)) {
				t.Fatalf("%+v, %+v, turned round, on %s: %s, %s", p, q, text.Print(w), text.Print(a), text.Print(b))
			}
		}
	}
	if all < 500 {
		t.Errorf("only %d times three are made one", all)
	}
}
