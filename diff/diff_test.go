package diff_test

import (
	"testing"

	"cento/api"
	"cento/apply"
	"cento/compose"
	"cento/diff"
	"cento/edit"
	"cento/lcs"
	"cento/normal"
	"cento/sample"
	"cento/text"
	"cento/tree"
)

// Short forms of what the tests are written with.
var (
	tr, replace, list, keep     = sample.TreeOf, sample.Replace, sample.Ops, sample.Keep
	del, insert, descend, words = sample.Delete, sample.Insert, sample.Descend, sample.Words
	kids, atom                  = sample.Kids, sample.Number
)

// word tells an edit of the lowest byte of a word.
func word(at int, old, now uint64) api.Edit {
	return words(api.WordEdit{At: at, Mask: 1, Old: old, New: now})
}

// 26.2
func TestWord(t *testing.T) {
	for _, c := range []struct {
		a, b uint64
		want api.WordEdit
		ok   bool
	}{
		{5, 5, api.WordEdit{}, false},
		{0, 0, api.WordEdit{}, false},
		{7, 8, api.WordEdit{At: 9, Mask: 1, Old: 7, New: 8}, true},
		{0x010203, 0x01ff04, api.WordEdit{At: 9, Mask: 3, Old: 0x0203, New: 0xff04}, true},
		{0xff00000000000001, 0xfe00000000000001, api.WordEdit{At: 9, Mask: 0x80, Old: 0xff << 56, New: 0xfe << 56}, true},
		{0, 0x0100000001, api.WordEdit{At: 9, Mask: 0x11, New: 0x0100000001}, true},
	} {
		if got, ok := diff.Word(9, c.a, c.b); got != c.want || ok != c.ok {
			t.Errorf("Word(%x, %x): %+v, %v", c.a, c.b, got, ok)
		}
	}
}

// 26.1
func TestTrees(t *testing.T) {
	two := func(a, b api.Edit) api.Edit { return api.Edit{Kind: api.StructEdit, Words: a.Words, Kids: b.Kids} }
	for _, c := range []struct {
		a, b string
		most int
		want api.Edit
	}{
		{"_", "_", 9, api.Edit{}},
		{"{1,0|_}", "{1}", 9, api.Edit{}},
		{"p[{0},_]", "p[{},_]", 0, api.Edit{}},
		{"{1}", "{1|_}", -1, api.Edit{}},
		{"_", "{}", 9, replace("_", "{}")},
		{"{1,0}", "y[1]", 9, replace("{1}", "y[1]")},
		{"y[1]", "t[1]", 9, replace("y[1]", "t[1]")},
		{"c[]", "p[]", 9, replace("c[]", "p[]")},
		{"{1}", "{2}", 9, word(0, 1, 2)},
		{"{1}", "{1,2}", 9, word(1, 0, 2)},
		{"{1,2}", "{1}", 9, word(1, 2, 0)},
		{"{1,0,3}", "{}", 9, words(api.WordEdit{At: 0, Mask: 1, Old: 1}, api.WordEdit{At: 2, Mask: 1, Old: 3})},
		{"{|{1},y[1]}", "{|{2},y[1]}", 9, kids(api.KidEdit{At: 0, E: word(0, 1, 2)})},
		{"{1}", "{2|_,{1}}", 9, two(word(0, 1, 2), kids(api.KidEdit{At: 1, E: replace("_", "{1}")}))},
		{"{|{1}}", "{}", 9, kids(api.KidEdit{At: 0, E: replace("{1}", "_")})},

		{"y[1,2,3]", "y[1,9,3]", 9, list(api.Byte, keep(1), del(atom(2)), insert(atom(9)), keep(1))},
		{"y[1,2,3]", "y[1,9,3]", 2, list(api.Byte, keep(1), del(atom(2)), insert(atom(9)), keep(1))},
		{"y[1,2,3]", "y[1,9,3]", 1, list(api.Byte, del(atom(1), atom(2), atom(3)), insert(atom(1), atom(9), atom(3)))},
		{"y[1]", "y[]", 0, list(api.Byte, del(atom(1)))},
		{"y[]", "y[1]", 0, list(api.Byte, insert(atom(1)))},
		{"y[1]", "y[2]", -5, list(api.Byte, del(atom(1)), insert(atom(2)))},
		{"y[5,5]", "y[5]", 9, list(api.Byte, del(atom(5)), keep(1))},
		{"p[{1,0},_,y[]]", "p[_,y[],{1}]", 9, list(api.Pointers, del(tr("{1}")), keep(2), insert(tr("{1}")))},
		// Those that go together are edited; of lists of no limit those that mean the same are kept.
		{"c[{1,2}]", "c[{1,3}]", 9, list(api.Composite, descend(word(1, 2, 3)))},
		{"c[{1,2},{5},{7}]", "c[{1,3},{5},{8}]", 9, list(api.Composite, descend(word(1, 2, 3)), keep(1), descend(word(0, 7, 8)))},
		{"p[{1,2},_]", "p[y[1],{1,3},_]", 9, list(api.Pointers, insert(tr("y[1]")), descend(word(1, 2, 3)), keep(1))},
		{"p[{1},y[2]]", "p[y[3],{4}]", 9, list(api.Pointers, insert(tr("y[3]")), descend(word(0, 1, 4)), del(tr("y[2]")))},
		{"p[{1,1},{1,2}]", "p[{1,2},{1,3}]", 0, list(api.Pointers, del(tr("{1,1}")), keep(1), insert(tr("{1,3}")))},
		{"p[_]", "p[{}]", 9, list(api.Pointers, del(tr("_")), insert(tr("{}")))},
		{"p[p[y[1,2]]]", "p[p[y[1,3]]]", 9, list(api.Pointers, descend(list(api.Pointers, descend(list(api.Byte, keep(1), del(atom(2)), insert(atom(3)))))))},
		// The limit holds within, too.
		{"{|y[1,2,3]}", "{|y[1,3]}", 0, kids(api.KidEdit{At: 0, E: list(api.Byte, del(atom(1), atom(2), atom(3)), insert(atom(1), atom(3)))})},
		{"p[y[1,2,3]]", "p[y[1,3]]", 0, list(api.Pointers, descend(list(api.Byte, del(atom(1), atom(2), atom(3)), insert(atom(1), atom(3)))))},
	} {
		if got := diff.Trees(tr(c.a), tr(c.b), c.most); !edit.Equal(got, c.want) {
			t.Errorf("from %s to %s, limit %d: %+v, not %+v", c.a, c.b, c.most, got, c.want)
		}
	}
}

// 26.2
func TestGap(t *testing.T) {
	for _, c := range []struct {
		list     int
		old, now string
		want     []api.Op
	}{
		{api.Byte, "y[]", "y[]", nil},
		{api.Byte, "y[1]", "y[]", []api.Op{del(atom(1))}},
		{api.Byte, "y[]", "y[1,2]", []api.Op{insert(atom(1), atom(2))}},
		{api.Byte, "y[1,2]", "y[3]", []api.Op{del(atom(1), atom(2)), insert(atom(3))}},
		{api.Pointers, "p[_,{1},y[1]]", "p[{2},_,y[1,2]]", []api.Op{del(tr("_")), descend(word(0, 1, 2)), insert(tr("_")), descend(list(api.Byte, keep(1), insert(atom(2))))}},
		{api.Pointers, "p[{1,2},_,_]", "p[_,{1,3},y[1]]", []api.Op{insert(tr("_")), descend(word(1, 2, 3)), del(tr("_"), tr("_")), insert(tr("y[1]"))}},
		{api.Composite, "c[{1,1},{2,2},{3,3}]", "c[{2,4},{3,5}]", []api.Op{del(tr("{1,1}")), descend(word(1, 2, 4)), descend(word(1, 3, 5))}},
	} {
		got := diff.Gap(c.list, tr(c.old).Kids, tr(c.now).Kids, 9)
		if !edit.Equal(list(c.list, got...), list(c.list, c.want...)) {
			t.Errorf("Gap of %s and %s: %+v, not %+v", c.old, c.now, got, c.want)
		}
	}
}

// 26.2: only the first sixteen kids are paired.
func TestGapOfMany(t *testing.T) {
	old, now := api.Tree{Kind: api.Composite}, api.Tree{Kind: api.Composite}
	for i := range 20 {
		old.Kids = append(old.Kids, api.Tree{Kind: api.Struct, Words: []uint64{uint64(i) + 1, 1}})
		now.Kids = append(now.Kids, api.Tree{Kind: api.Struct, Words: []uint64{uint64(i) + 1, 2}})
	}
	got := diff.Gap(api.Composite, old.Kids, now.Kids, 100)
	if len(got) != 18 || got[15].Kind != api.Descend || len(got[16].L) != 4 || got[16].Kind != api.Delete || len(got[17].L) != 4 || got[17].Kind != api.Insert {
		t.Errorf("%+v", got)
	}
}

// kept tells how many kids of a list are kept.
func kept(e api.Edit) int {
	n := 0
	for _, o := range e.Ops {
		if o.Kind == api.Keep {
			n += o.N
		}
	}
	return n
}

// numbers tells a number of each kid, those that mean the same having the same.
func numbers(kids []api.Tree) []int {
	var out []int
	for _, k := range kids {
		n := 0
		for _, c := range text.Print(tree.Norm(k)) {
			n = n*131 + int(c)
		}
		out = append(out, n)
	}
	return out
}

// 26.3, T3
func TestManyTrees(t *testing.T) {
	for seed := range 5000 {
		s := sample.From(seed)
		a := s.Tree(4)
		b := s.Like(a, 4)
		if s.Once(10) {
			b = s.Tree(4)
		}
		most := []int{0, 1, 3, 100}[s.Below(4)]
		e := diff.Trees(a, b, most)
		got, ok := apply.Edit(e, a)
		if !ok || text.Print(got) != text.Print(tree.Norm(b)) {
			t.Fatalf("from %s to %s: %+v leads to %s, %v", text.Print(a), text.Print(b), e, text.Print(got), ok)
		}
		if !edit.Right(e) || !edit.Equal(normal.Edit(e), e) || (e.Kind == api.Same) != tree.Equal(a, b) {
			t.Fatalf("from %s to %s: %+v", text.Print(a), text.Print(b), e)
		}
		if !edit.Equal(diff.Trees(tree.Norm(a), tree.Norm(b), most), e) {
			t.Fatalf("from %s to %s: otherwise of the Norms", text.Print(a), text.Print(b))
		}
		if e.Kind == api.ListEdit {
			common := lcs.Common(numbers(a.Kids), numbers(b.Kids))
			if len(a.Kids)+len(b.Kids)-2*common <= most && kept(e) != common {
				t.Fatalf("from %s to %s: %+v keeps %d, not %d", text.Print(a), text.Print(b), e, kept(e), common)
			}
		}
		c := s.Like(b, 4)
		both, ok := compose.Edit(e, diff.Trees(b, c, most))
		if !ok {
			t.Fatalf("from %s by %s to %s: not made one", text.Print(a), text.Print(b), text.Print(c))
		}
		if got, ok := apply.Edit(both, a); !ok || !tree.Equal(got, c) {
			t.Fatalf("from %s by %s to %s: %s", text.Print(a), text.Print(b), text.Print(c), text.Print(got))
		}
	}
}

// 26.1: long lists.
func TestLongLists(t *testing.T) {
	a := api.Tree{Kind: api.Four}
	for i := range 60000 {
		a.Kids = append(a.Kids, atom(uint64(i%50000)))
	}
	b := api.Tree{Kind: api.Four, Kids: append(append([]api.Tree{}, a.Kids[:30000]...), a.Kids[30002:]...)}
	want := list(api.Four, keep(30000), del(atom(30000), atom(30001)), keep(29998))
	if got := diff.Trees(a, b, 4096); !edit.Equal(got, want) {
		t.Errorf("%d steps", len(got.Ops))
	}
}
