package rebase_test

import (
	"testing"

	"cento/api"
	"cento/apply"
	"cento/compose"
	"cento/edit"
	"cento/normal"
	"cento/rebase"
	"cento/sample"
	"cento/text"
)

// Short forms of what the tests are written with.
var (
	tr, replace, list, keep     = sample.TreeOf, sample.Replace, sample.Ops, sample.Keep
	del, insert, descend, words = sample.Delete, sample.Insert, sample.Descend, sample.Words
	kids, word, atom            = sample.Kids, sample.Byte, sample.Number
)

func at(i int, e api.Edit) api.KidEdit { return api.KidEdit{At: i, E: e} }

// 30.1
func TestEdits(t *testing.T) {
	one, two, three := atom(1), atom(2), atom(3)
	high := words(api.WordEdit{Mask: 2, Old: 0x100, New: 0x200})
	for _, c := range []struct {
		name         string
		p, q         api.Edit
		wantP, wantQ api.Edit
		want         api.Errno
	}{
		{name: "Same and Same"},
		{name: "Same and another one, as it is written", q: list(api.Byte, insert(one), del(two)), wantQ: list(api.Byte, del(two), insert(one))},
		{name: "one and itself", p: word(1, 2), q: word(1, 2)},

		{name: "Replace by the same", p: replace("{1}", "{2}"), q: replace("{1,0}", "{2|_}")},
		{name: "Replace by something else", p: replace("{1}", "{2}"), q: replace("{1}", "{3}"), want: api.ErrMismatch},
		{name: "Replace of something else", p: replace("{1}", "{2}"), q: replace("{3}", "{2}"), want: api.ErrIncompatible},
		{name: "Replace, and what does the same", p: replace("{1}", "{2}"), q: word(1, 2)},
		{name: "Replace, and what does something else", p: replace("{1}", "_"), q: word(1, 2), want: api.ErrMismatch},
		{name: "Replace, and what is not defined", p: replace("{1}", "_"), q: word(2, 3), want: api.ErrIncompatible},
		{name: "Replace, and a StructEdit of nothing", p: replace("{1}", "{1}"), q: words()},
		{name: "Replace, and a StructEdit of nothing, on a list", p: replace("c[]", "c[]"), q: words(), want: api.ErrIncompatible},

		{name: "a StructEdit and a ListEdit", p: words(), q: list(api.Composite), want: api.ErrIncompatible},
		{name: "two lists", p: list(api.Byte), q: list(api.Two), want: api.ErrIncompatible},

		{name: "words apart from each other", p: words(api.WordEdit{At: 0, Mask: 1, Old: 1, New: 2}, api.WordEdit{At: 5, Mask: 1}), q: words(api.WordEdit{At: 3, Mask: 1}), wantP: words(api.WordEdit{At: 0, Mask: 1, Old: 1, New: 2}, api.WordEdit{At: 5, Mask: 1}), wantQ: words(api.WordEdit{At: 3, Mask: 1})},
		{name: "bytes of a word", p: word(1, 2), q: high, wantP: word(1, 2), wantQ: high},
		{name: "bytes that both name", p: words(api.WordEdit{Mask: 3, Old: 0x101, New: 0x202}), q: words(api.WordEdit{Mask: 6, Old: 0x10100, New: 0x30200}), wantP: word(1, 2), wantQ: words(api.WordEdit{Mask: 4, Old: 0x10000, New: 0x30000})},
		{name: "unlike New bytes", p: word(1, 2), q: word(1, 3), want: api.ErrMismatch},
		{name: "unlike Old bytes", p: word(1, 2), q: word(3, 2), want: api.ErrIncompatible},
		{name: "unlike bytes ahead of being apart", p: words(api.WordEdit{At: 0, Mask: 1, Old: 1, New: 2}, api.WordEdit{At: 1, Mask: 1, Old: 5}), q: words(api.WordEdit{At: 0, Mask: 1, Old: 1, New: 3}, api.WordEdit{At: 1, Mask: 1, Old: 6}), want: api.ErrIncompatible},
		{name: "a StructEdit of nothing", p: words(), q: word(1, 2), wantQ: word(1, 2)},
		{name: "kids apart from each other", p: kids(at(0, word(1, 2)), at(3, words())), q: kids(at(1, word(1, 2))), wantP: kids(at(0, word(1, 2)), at(3, words())), wantQ: kids(at(1, word(1, 2)))},
		{name: "a kid of both", p: kids(at(0, word(1, 2)), at(1, word(1, 2))), q: kids(at(0, high), at(1, word(1, 2))), wantP: kids(at(0, word(1, 2))), wantQ: kids(at(0, high))},
		{name: "a kid of both that clash", p: kids(at(0, word(1, 2))), q: kids(at(0, replace("{1}", "_"))), want: api.ErrMismatch},
		{name: "a clash within, and apart elsewhere", p: kids(at(0, word(1, 2)), at(1, words())), q: kids(at(0, word(1, 3)), at(1, list(api.Byte))), want: api.ErrIncompatible},

		{name: "Inserts at two places", p: list(api.Byte, insert(one), keep(1)), q: list(api.Byte, keep(1), insert(two)), wantP: list(api.Byte, insert(one), keep(2)), wantQ: list(api.Byte, keep(2), insert(two))},
		{name: "the same is inserted", p: list(api.Byte, insert(one, two), keep(1)), q: list(api.Byte, insert(one, two), keep(1), insert(three)), wantQ: list(api.Byte, keep(3), insert(three))},
		{name: "something else is inserted", p: list(api.Byte, insert(one), keep(1)), q: list(api.Byte, insert(two), keep(1)), want: api.ErrMismatch},
		{name: "more is inserted", p: list(api.Byte, insert(one), keep(1)), q: list(api.Byte, insert(one, two), keep(1)), want: api.ErrMismatch},
		{name: "in one gap, but at two places", p: list(api.Byte, del(one), insert(two), keep(1)), q: list(api.Byte, insert(three), keep(2)), wantP: list(api.Byte, keep(1), del(one), insert(two), keep(1)), wantQ: list(api.Byte, insert(three), keep(2))},
		{name: "Inserts on both sides of what is deleted", p: list(api.Byte, insert(one), keep(1), insert(two)), q: list(api.Byte, del(three)), wantP: list(api.Byte, insert(one, two)), wantQ: list(api.Byte, keep(1), del(three), keep(1))},
		{name: "as they are written", p: list(api.Byte, insert(one), del(two)), q: list(api.Byte, del(two), insert(one))},
		{name: "Keep and Delete", p: list(api.Byte, keep(3)), q: list(api.Byte, keep(1), del(one), keep(1)), wantQ: list(api.Byte, keep(1), del(one), keep(1))},
		{name: "Delete and Delete", p: list(api.Byte, del(one, two), keep(1)), q: list(api.Byte, keep(1), del(two, three)), wantP: list(api.Byte, del(one)), wantQ: list(api.Byte, del(three))},
		{name: "Delete of something else", p: list(api.Byte, del(one)), q: list(api.Byte, del(two)), want: api.ErrIncompatible},
		{name: "too many kids", p: list(api.Byte, keep(1)), q: list(api.Byte, keep(2)), want: api.ErrIncompatible},
		{name: "Descend and Keep", p: list(api.Composite, descend(word(1, 2)), keep(1)), q: list(api.Composite, keep(2), insert(tr("{}"))), wantP: list(api.Composite, descend(word(1, 2)), keep(2)), wantQ: list(api.Composite, keep(2), insert(tr("{}")))},
		{name: "Descend and Delete", p: list(api.Composite, descend(word(1, 2))), q: list(api.Composite, del(tr("{1,5}"))), want: api.ErrMismatch},
		{name: "Descend and Delete, apart", p: list(api.Composite, descend(word(1, 2))), q: list(api.Composite, del(tr("{2}"))), want: api.ErrIncompatible},
		{name: "Delete and Descend", p: list(api.Composite, del(tr("{1,5}"))), q: list(api.Composite, descend(word(1, 2))), want: api.ErrMismatch},
		{name: "Descend and Descend", p: list(api.Composite, descend(word(1, 2)), descend(word(1, 2))), q: list(api.Composite, descend(high), descend(word(1, 2))), wantP: list(api.Composite, descend(word(1, 2)), keep(1)), wantQ: list(api.Composite, descend(high), keep(1))},
		{name: "Descends that clash", p: list(api.Pointers, descend(word(1, 2))), q: list(api.Pointers, descend(word(1, 3))), want: api.ErrMismatch},
		{name: "Keep of all", p: list(api.Byte, keep(2)), q: list(api.Byte, keep(2))},
		{name: "empty lists", p: list(api.Byte), q: list(api.Byte, insert(one)), wantQ: list(api.Byte, insert(one))},
	} {
		a, b, err := rebase.Edits(c.p, c.q)
		if err != c.want || !edit.Equal(a, c.wantP) || !edit.Equal(b, c.wantQ) {
			t.Errorf("%s: %+v, %+v, %d", c.name, a, b, err)
		}
		b, a, err = rebase.Edits(c.q, c.p)
		if err != c.want || !edit.Equal(a, c.wantP) || !edit.Equal(b, c.wantQ) {
			t.Errorf("%s, the other way round: %+v, %+v, %d", c.name, a, b, err)
		}
	}
}

// 30.2
func TestTheSquareCloses(t *testing.T) {
	closed, clash := 0, 0
	for seed := range 6000 {
		s := sample.From(seed)
		x := s.Tree(4)
		p, q := s.Edit(x, 4), s.Edit(x, 4)
		a, b, err := rebase.Edits(p, q)
		if err == api.ErrIncompatible {
			t.Fatalf("%+v and %+v are apart, but both defined on %s", p, q, text.Print(x))
		}
		if err != api.OK {
			clash++
			continue
		}
		closed++
		if !edit.Right(a) || !edit.Right(b) || !edit.Equal(a, normal.Edit(a)) || !edit.Equal(b, normal.Edit(b)) {
			t.Fatalf("%+v and %+v: %+v and %+v are left", p, q, a, b)
		}
		for _, y := range []api.Tree{x, s.Like(x, 4), s.Like(x, 4)} {
			byP, okP := apply.Edit(p, y)
			byQ, okQ := apply.Edit(q, y)
			if !okP || !okQ {
				continue
			}
			pq, ok1 := apply.Edit(b, byP)
			qp, ok2 := apply.Edit(a, byQ)
			if !ok1 || !ok2 || text.Print(pq) != text.Print(qp) {
				t.Fatalf("%s by %+v and %+v: %s, %v, and %s, %v", text.Print(y), p, q, text.Print(pq), ok1, text.Print(qp), ok2)
			}
		}
		left, right, err := rebase.Edits(p, p)
		if err != api.OK || left.Kind != api.Same || right.Kind != api.Same {
			t.Fatalf("%+v and itself: %+v, %+v, %d", p, left, right, err)
		}
	}
	if closed < 1000 || clash < 1000 {
		t.Errorf("%d squares close, %d clash", closed, clash)
	}
}

// 30.2
func TestApart(t *testing.T) {
	apart := 0
	for seed := range 6000 {
		s := sample.From(seed)
		x := s.Tree(4)
		y := s.Like(x, 4)
		p, q := s.Edit(x, 4), s.Edit(y, 4)
		a, b, err := rebase.Edits(p, q)
		d, c, again := rebase.Edits(q, p)
		if err != again || !edit.Equal(a, c) || !edit.Equal(b, d) {
			t.Fatalf("%+v and %+v: %+v, %+v, %d; the other way round %+v, %+v, %d", p, q, a, b, err, c, d, again)
		}
		if err != api.OK && (a.Kind != api.Same || b.Kind != api.Same) {
			t.Fatalf("%+v and %+v: %+v and %+v beside %d", p, q, a, b, err)
		}
		if err != api.ErrIncompatible {
			continue
		}
		apart++
		for _, z := range []api.Tree{x, y, s.Like(x, 4), s.Like(y, 4), compose.Some(p), compose.Some(q)} {
			_, okP := apply.Edit(p, z)
			_, okQ := apply.Edit(q, z)
			if okP && okQ {
				t.Fatalf("%+v and %+v are apart, but both defined on %s", p, q, text.Print(z))
			}
		}
	}
	if apart < 500 {
		t.Errorf("only %d are apart", apart)
	}
}
