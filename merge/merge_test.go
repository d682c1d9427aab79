package merge_test

import (
	"fmt"
	"testing"

	"cento/api"
	"cento/apply"
	"cento/diff"
	"cento/merge"
	"cento/normal"
	"cento/path"
	"cento/rebase"
	"cento/sample"
	"cento/text"
	"cento/tree"
)

// Short forms of what the tests are written with.
var (
	tr, list, keep, del          = sample.TreeOf, sample.Ops, sample.Keep, sample.Delete
	insert, descend, words, word = sample.Insert, sample.Descend, sample.Words, sample.Byte
	atom                         = sample.Number
)

// shown tells conflicts: the path, the base, and what each side wants.
func shown(l []api.Conflict) string {
	s := ""
	for _, c := range l {
		for _, p := range c.Path {
			s += fmt.Sprintf("%c%d", "kwg"[p.Kind], p.At)
		}
		s += " " + text.Print(c.Base) + " " + text.Print(c.Ours) + " " + text.Print(c.Theirs) + "; "
	}
	return s
}

// turned tells conflicts with the sides' places changed.
func turned(l []api.Conflict) []api.Conflict {
	var out []api.Conflict
	for _, c := range l {
		out = append(out, api.Conflict{Path: c.Path, Base: c.Base, Ours: c.Theirs, Theirs: c.Ours})
	}
	return out
}

// 32.1, 32.2
func TestTrees(t *testing.T) {
	for _, c := range []struct{ o, x, y, want, conflicts string }{
		{"_", "_", "_", "_", ""},
		{"{1,1}", "{2,1}", "{1,3}", "{2,3}", ""},
		{"{1}", "{2}", "{3}", "{1}", "w0 {1} {2} {3}; "},
		{"{1,0}", "{1|_}", "{2}", "{2}", ""},
		{"{1}", "{2}", "{2}", "{2}", ""},
		{"{}", "{0,0,1}", "{1}", "{1,0,1}", ""},
		{"{1,2,3}", "{1}", "{1,2,4}", "{1,0,3}", "w2 {3} {} {4}; "},
		{"{101}", "{102}", "{201}", "{202}", ""},
		{"{101}", "{202}", "{203}", "{101}", "w0 {101} {202} {203}; "},
		{"{5}", "y[1]", "{6}", "{5}", " {5} y[1] {6}; "},
		{"{5}", "y[1]", "y[1]", "y[1]", ""},
		{"{5}", "y[1]", "y[2]", "{5}", " {5} y[1] y[2]; "},
		{"_", "{1}", "{2}", "_", " _ {1} {2}; "},
		{"_", "{1}", "_", "{1}", ""},
		{"{|{1},{1}}", "{|{2},{1}}", "{|{1},{3}}", "{|{2},{3}}", ""},
		{"{1|{1},{1}}", "{2|{2},{2}}", "{3|{3},{1,1}}", "{1|{1},{2,1}}", "w0 {1} {2} {3}; k0w0 {1} {2} {3}; "},
		{"{|{1}}", "{}", "{|{2}}", "{|{1}}", "k0 {1} _ {2}; "},
		{"{}", "{|_,{1}}", "{|_,y[]}", "{}", "k1 _ {1} y[]; "},
		{"{}", "{|_,{1}}", "{|{2}}", "{|{2},{1}}", ""},

		{"y[1,2,3]", "y[2,3]", "y[1,2,3,4]", "y[2,3,4]", ""},
		{"y[1]", "y[1,2]", "y[1,3]", "y[1]", "g1 y[] y[2] y[3]; "},
		{"y[1]", "y[1,2]", "y[1,2]", "y[1,2]", ""},
		{"y[]", "y[1]", "y[1,2]", "y[]", "g0 y[] y[1] y[1,2]; "},
		{"y[1,2]", "y[9,2]", "y[8,2]", "y[2]", "g1 y[] y[9] y[8]; "},
		{"y[1,2,3,4]", "y[1,3,4]", "y[1,2,3]", "y[1,3]", ""},
		{"y[1,2]", "y[2]", "y[2]", "y[2]", ""},
		{"c[{1,1},{2,2}]", "c[{1,5},{2,2}]", "c[{1,1},{2,6}]", "c[{1,5},{2,6}]", ""},
		{"c[{1,1},{2,2}]", "c[{1,5},{2,2}]", "c[{2,2}]", "c[{1,1},{2,2}]", "k0 {1,1} {1,5} _; "},
		{"c[{1,1},{2,2}]", "c[{1,5},{2,2}]", "c[{1,6},{2,2}]", "c[{1,1},{2,2}]", "k0w1 {1} {5} {6}; "},
		{"p[{1,1},_,y[1]]", "p[{1,2},y[1]]", "p[{1,1},_,y[1,2]]", "p[{1,2},y[1,2]]", ""},
		{"p[p[_]]", "p[p[_,{1}]]", "p[p[_,{2}]]", "p[p[_]]", "k0g1 p[] p[{1}] p[{2}]; "},
		{"{1|c[{5|y[1]}]}", "{2|c[{5|y[2]}]}", "{3|c[{5|y[3]}]}", "{1|c[{5|y[]}]}", "w0 {1} {2} {3}; k0k0k0g1 y[] y[2] y[3]; "},
	} {
		got, l := merge.Trees(tr(c.o), tr(c.x), tr(c.y), 100)
		if text.Print(got) != c.want || shown(l) != c.conflicts {
			t.Errorf("%s, %s, %s: %s, %s, not %s, %s", c.o, c.x, c.y, text.Print(got), shown(l), c.want, c.conflicts)
		}
		back, l := merge.Trees(tr(c.o), tr(c.y), tr(c.x), 100)
		if text.Print(back) != c.want || shown(turned(l)) != c.conflicts {
			t.Errorf("%s, %s, %s: %s, %s", c.o, c.y, c.x, text.Print(back), shown(l))
		}
	}
}

// 32.1: steps that are not as they are written, and conflicts in order.
func TestEdits(t *testing.T) {
	one, two, three, four := atom(1), atom(2), atom(3), atom(4)
	for _, c := range []struct {
		o               string
		p, q            api.Edit
		want, conflicts string
	}{
		{"{1,0}", api.Edit{}, api.Edit{}, "{1}", ""},
		{"{1,0}", api.Edit{}, words(), "{1}", ""},
		{"y[1]", list(api.Byte, insert(two), insert(three), keep(1)), list(api.Byte, insert(two, three), keep(1)), "y[2,3,1]", ""},
		{"y[1]", list(api.Byte, insert(two), insert(three), keep(1)), list(api.Byte, insert(two), keep(1)), "y[1]", "g0 y[] y[2,3] y[2]; "},
		{"y[1]", list(api.Byte, insert(two), del(one), insert(three)), list(api.Byte, insert(two), keep(1), insert(three)), "y[2,3]", ""},
		{"y[1]", list(api.Byte, insert(two), del(one)), list(api.Byte, del(one), insert(two)), "y[2,2]", ""},
		{"y[1,2]", list(api.Byte, insert(three), keep(2), insert(three)), list(api.Byte, insert(four), keep(1), del(two), insert(four)), "y[1]", "g0 y[] y[3] y[4]; g2 y[] y[3] y[4]; "},
		{"y[1,2]", list(api.Byte, keep(1), insert(three), keep(1)), list(api.Byte, del(one), insert(four), del(two)), "y[]", "g1 y[] y[3] y[4]; "},
		{"c[{1},{1}]", list(api.Composite, insert(tr("{3}")), descend(word(1, 2)), del(tr("{1,0}"))), list(api.Composite, insert(tr("{4,0}")), del(tr("{1}")), descend(word(1, 5))), "c[{1},{1}]", "g0 c[] c[{3}] c[{4}]; k0 {1} {2} _; k1 {1} _ {5}; "},
		{"c[{1},{1}]", list(api.Composite, keep(1), descend(words())), list(api.Composite, descend(words()), keep(1)), "c[{1},{1}]", ""},
		{"c[{1}]", list(api.Composite, del(tr("{1}"))), list(api.Composite, descend(words())), "c[{1}]", "k0 {1} _ {1}; "},
		{"{1}", api.Edit{Kind: api.Replace, Old: tr("{1}"), New: tr("{2,0}")}, word(1, 2), "{2}", ""},
		{"{1}", api.Edit{Kind: api.Replace, Old: tr("{1}"), New: tr("{2,0}")}, words(), "{1}", " {1} {2} {1}; "},
		{"p[_]", api.Edit{Kind: api.Replace, Old: tr("p[_]"), New: tr("p[]")}, list(api.Pointers, del(api.Tree{})), "p[]", ""},
	} {
		got, l, ok := merge.Edits(tr(c.o), c.p, c.q)
		if !ok || text.Print(got) != c.want || shown(l) != c.conflicts {
			t.Errorf("%s, %+v, %+v: %s, %s, %v, not %s, %s", c.o, c.p, c.q, text.Print(got), shown(l), ok, c.want, c.conflicts)
		}
		back, l, ok := merge.Edits(tr(c.o), c.q, c.p)
		if !ok || text.Print(back) != c.want || shown(turned(l)) != c.conflicts {
			t.Errorf("%s, %+v, %+v: %s, %s, %v", c.o, c.q, c.p, text.Print(back), shown(l), ok)
		}
	}
}

// 32.1
func TestNotDefined(t *testing.T) {
	for _, c := range []struct {
		o    string
		p, q api.Edit
	}{
		{"{1}", word(2, 3), api.Edit{}}, {"{1}", api.Edit{}, word(2, 3)}, {"{1}", word(1, 2), word(2, 3)}, {"{1}", list(api.Byte), words()}, {"y[1]", list(api.Byte, keep(1)), list(api.Byte, keep(2))},
		{"_", words(), words()}, {"_", api.Edit{Kind: api.Replace, Old: tr("{}")}, api.Edit{}},
	} {
		if got, l, ok := merge.Edits(tr(c.o), c.p, c.q); ok || len(l) > 0 || got.Kind != 0 || len(got.Words)+len(got.Kids) > 0 {
			t.Errorf("%s, %+v, %+v: %s, %s, %v", c.o, c.p, c.q, text.Print(got), shown(l), ok)
		}
	}
}

// 32.3
func TestManyEdits(t *testing.T) {
	clear, conflicts := 0, 0
	for seed := range 6000 {
		s := sample.From(seed)
		o := s.Tree(4)
		p, q := s.Edit(o, 4), s.Edit(o, 4)
		if s.Once(2) {
			p, q = normal.Edit(p), normal.Edit(q)
		}
		got, l, ok := merge.Edits(o, p, q)
		if !ok || text.Print(got) != text.Print(tree.Norm(got)) {
			t.Fatalf("%s, %+v, %+v: %s, %v", text.Print(o), p, q, text.Print(got), ok)
		}
		back, m, _ := merge.Edits(o, q, p)
		if text.Print(back) != text.Print(got) || shown(turned(m)) != shown(l) {
			t.Fatalf("%s, %+v, %+v: %s, %s, the other way round %s, %s", text.Print(o), p, q, text.Print(got), shown(l), text.Print(back), shown(m))
		}
		for _, c := range l {
			base, ok := path.Get(o, c.Path)
			if !ok || text.Print(base) != text.Print(c.Base) {
				t.Fatalf("%s, %+v, %+v: %s", text.Print(o), p, q, shown(l))
			}
		}
		p, q = normal.Edit(p), normal.Edit(q)
		got, l, _ = merge.Edits(o, p, q)
		_, b, err := rebase.Edits(p, q)
		if (err == api.OK) != (len(l) == 0) {
			t.Fatalf("%s, %+v, %+v: %s, but %d", text.Print(o), p, q, shown(l), err)
		}
		if err != api.OK {
			conflicts++
			continue
		}
		clear++
		byP, _ := apply.Edit(p, o)
		if closed, ok := apply.Edit(b, byP); !ok || text.Print(closed) != text.Print(got) {
			t.Fatalf("%s, %+v, %+v: %s, not %s", text.Print(o), p, q, text.Print(got), text.Print(closed))
		}
	}
	if clear < 1000 || conflicts < 1000 {
		t.Errorf("%d are clear, %d have conflicts", clear, conflicts)
	}
}

// 32.2, 32.3, T4
func TestManyTrees(t *testing.T) {
	for seed := range 3000 {
		s := sample.From(seed)
		o := s.Tree(4)
		x, y := s.Like(o, 4), s.Like(o, 4)
		most := []int{0, 2, 100}[s.Below(3)]
		got, l := merge.Trees(o, x, y, most)
		want, m, ok := merge.Edits(o, diff.Trees(o, x, most), diff.Trees(o, y, most))
		if !ok || text.Print(got) != text.Print(want) || shown(l) != shown(m) {
			t.Fatalf("%s, %s, %s: %s, %s, not %s, %s", text.Print(o), text.Print(x), text.Print(y), text.Print(got), shown(l), text.Print(want), shown(m))
		}
		n := text.Print(tree.Norm(x))
		for _, c := range [][3]api.Tree{{o, o, x}, {o, x, o}, {o, x, x}, {x, x, x}} {
			got, l := merge.Trees(c[0], c[1], c[2], most)
			if text.Print(got) != n || len(l) > 0 {
				t.Fatalf("%s, %s, %s: %s, %s", text.Print(c[0]), text.Print(c[1]), text.Print(c[2]), text.Print(got), shown(l))
			}
		}
		if e := diff.Trees(o, got, most); !tree.Equal(got, by(t, e, o)) {
			t.Fatalf("%s does not come of %s", text.Print(got), text.Print(o))
		}
	}
}

func by(t *testing.T, e api.Edit, x api.Tree) api.Tree {
	t.Helper()
	y, ok := apply.Edit(e, x)
	if !ok {
		t.Fatalf("%+v is not defined on %s", e, text.Print(x))
	}
	return y
}

// R4
func TestNoTwoPathsShareMemory(t *testing.T) {
	_, l := merge.Trees(tr("{|{|{1,1},{1}}}"), tr("{|{|{2,2},{2}}}"), tr("{|{|{3,3},{3}}}"), 100)
	want := shown(l)
	for _, c := range l {
		_ = append(c.Path, api.Step{Kind: 2, At: 9})
	}
	if shown(l) != want || len(l) != 3 {
		t.Errorf("%s, then %s", want, shown(l))
	}
}
