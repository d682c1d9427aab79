package patch_test

import (
	"fmt"
	"math"
	"slices"
	"testing"

	"cento/api"
	"cento/canon"
	"cento/edit"
	"cento/normal"
	"cento/patch"
	"cento/sample"
	"cento/text"
	"cento/tree"
)

// Short forms of what the tests are written with.
var (
	tr, replace, list, keep     = sample.TreeOf, sample.Replace, sample.Ops, sample.Keep
	del, insert, descend, words = sample.Delete, sample.Insert, sample.Descend, sample.Words
	kids, atom                  = sample.Kids, sample.Number
)

// some are edits and what their trees mean.
func some() []struct {
	e    api.Edit
	tree string
} {
	w := api.WordEdit{At: 3, Mask: 0x81, Old: 5, New: 1 << 63}
	return []struct {
		e    api.Edit
		tree string
	}{
		{api.Edit{}, "_"},
		{replace("_", "_"), "{1}"},
		{replace("{5,0}", "y[7]"), "{1|{5},y[7]}"},
		{replace("_", "{5}"), "{1|_,{5}}"},
		{replace("{5}", "_"), "{1|{5}}"},
		{words(), "{2}"},
		{words(w), "{2|c[{8100000003,5,8000000000000000}]}"},
		{words(w, api.WordEdit{At: 65534, Mask: 1, Old: 2}), "{2|c[{8100000003,5,8000000000000000},{10000fffe,2}]}"},
		{kids(api.KidEdit{At: 0, E: words()}, api.KidEdit{At: 9, E: replace("_", "_")}), "{2|_,c[{|{2}},{9|{1}}]}"},
		{api.Edit{Kind: api.StructEdit, Words: []api.WordEdit{w}, Kids: []api.KidEdit{{At: 9, E: words()}}}, "{2|c[{8100000003,5,8000000000000000}],c[{9|{2}}]}"},
		{list(api.Byte), "{403}"},
		{list(api.Void, keep(1<<20-2), insert(atom(0))), "{203|c[{ffffe00},{2|v[0]}]}"},
		{list(api.Byte, keep(2), del(atom(5)), insert(atom(6), atom(7))), "{403|c[{200},{1|y[5]},{2|y[6,7]}]}"},
		{list(api.Pointers, del(api.Tree{}), insert(tr("{1}"), api.Tree{})), "{803|c[{1|p[_]},{2|p[{1},_]}]}"},
		{list(api.Composite, descend(words(w)), keep(1), insert(tr("{1}"))), "{903|c[{3|{2|c[{8100000003,5,8000000000000000}]}},{100},{2|c[{1}]}]}"},
	}
}

// 27.1
func TestTreeAndRead(t *testing.T) {
	for _, c := range some() {
		want := tr(c.tree)
		if got := patch.Tree(c.e); !tree.Right(got) || !tree.Equal(got, want) {
			t.Errorf("%+v has the tree %s, not %s", c.e, text.Print(got), c.tree)
		}
		if e, ok := patch.Read(want); !ok || !edit.Equal(e, c.e) {
			t.Errorf("%s is read as %+v, %v, not %+v", c.tree, e, ok, c.e)
		}
	}
}

// shown tells an edit with its trees as they stand.
func shown(e api.Edit) string {
	s := fmt.Sprint(e.Kind, text.Print(e.Old), text.Print(e.New), e.Words, e.List)
	for _, k := range e.Kids {
		s += fmt.Sprint(k.At, shown(k.E))
	}
	for _, o := range e.Ops {
		s += fmt.Sprint(o.Kind, o.N, text.Print(api.Tree{Kind: api.Pointers, Kids: o.L}))
		if o.Kind == api.Descend {
			s += shown(o.E)
		}
	}
	return s
}

// 27.1: trees are told as they stand.
func TestReadTellsTreesAsTheyStand(t *testing.T) {
	for _, c := range []struct {
		s    string
		want api.Edit
	}{
		{"{1,0|{5,0|_},p[{0}],_}", replace("{5,0|_}", "p[{0}]")},
		{"{803,0|c[{1,0|p[{5,0}]},{2|p[{|_},_],_}]}", list(api.Pointers, del(tr("{5,0}")), insert(tr("{|_}"), api.Tree{}))},
		{"{2|_,c[{0,0|{1|{0}}}]}", kids(api.KidEdit{E: replace("{0}", "_")})},
	} {
		if e, ok := patch.Read(tr(c.s)); !ok || shown(e) != shown(c.want) {
			t.Errorf("%s is read as %s, %v, not %s", c.s, shown(e), ok, shown(c.want))
		}
	}
}

// 27.1
func TestReadRefuses(t *testing.T) {
	for _, s := range []string{
		"{}", "{0}", "{4}", "{ff}", "{100}", "y[1]", "p[]", "c[]", "{|_,{}}",
		"{1,1}", "{1|_,_,{}}", "{101}", "{10001}",
		"{2,1}", "{102}", "{2|c[]}", "{2|_,c[]}", "{2|p[{100000000,1}]}", "{2|{}}", "{2|_,_,{}}", "{2|y[1]}",
		"{2|c[{}]}", "{2|c[{5,1,2}]}", "{2|c[{100000000,100,0}]}", "{2|c[{100000000,1,100}]}", "{2|c[{10000ffff,1,2}]}", "{2|c[{10000000000,1,2}]}", "{2|c[{100000000,1,2,3}]}", "{2|c[{100000000,1,2|{}}]}",
		"{2|c[{100000001,1,2},{100000001,1,2}]}", "{2|c[{100000001,1,2},{100000000,1,2}]}",
		"{2|_,c[{}]}", "{2|_,c[{1}]}", "{2|_,c[{1|{2},{}}]}", "{2|_,c[{1,1|{2}}]}", "{2|_,c[{ffff|{2}}]}", "{2|_,c[{100000000|{2}}]}", "{2|_,c[{1|{2}},{1|{2}}]}", "{2|_,c[{1|{4}}]}", "{2|_,c[{1|y[1]}]}",
		"{3}", "{103}", "{a03}", "{10403}", "{403,1}", "{403|c[]}", "{403|_,{}}", "{403|p[{100}]}", "{403|{}}",
		"{403|c[{}]}", "{403|c[{4}]}", "{403|c[{100,1}]}", "{403|c[{100|{}}]}", "{403|c[{10000000}]}", "{403|c[{fffffffffffff00}]}",
		"{403|c[{1}]}", "{403|c[{1|y[]}]}", "{403|c[{1|t[5]}]}", "{403|c[{101|y[5]}]}", "{403|c[{1|y[5],{}}]}", "{403|c[{1,1|y[5]}]}", "{403|c[{2}]}", "{403|c[{2|p[_]}]}", "{403|c[{3|{2}}]}",
		"{803|c[{3}]}", "{803|c[{103|{2}}]}", "{803|c[{3|{2},{}}]}", "{903|c[{3|{1}}]}", "{903|c[{3|{403}}]}", "{903|c[{3}]}", "{803|c[{1|c[{}]}]}",
	} {
		if e, ok := patch.Read(tr(s)); ok || !edit.Equal(e, api.Edit{}) {
			t.Errorf("%s is read as %+v", s, e)
		}
	}
}

// 27.2, 27.3
func TestEncodeAndDecode(t *testing.T) {
	for _, c := range some() {
		n := 1 + tree.Size(tr(c.tree))
		l, ok := patch.Encode(c.e, n)
		want, _ := canon.Encode(tr(c.tree), n)
		if !ok || !slices.Equal(l, want) {
			t.Errorf("%+v: %x, %v, not %x", c.e, l, ok, want)
		}
		if l, ok := patch.Encode(c.e, n-1); ok || len(l) != 0 {
			t.Errorf("%+v has %d words of %d at the most", c.e, len(l), n-1)
		}
		e, err := patch.Decode(l)
		if err != api.OK || !edit.Equal(e, c.e) {
			t.Errorf("%x is decoded as %+v, %d", l, e, err)
		}
	}
	if l, ok := patch.Encode(words(), 2); !ok || !slices.Equal(l, []uint64{0x0000000100000000, 2}) {
		t.Errorf("the example: %x, %v", l, ok)
	}
	for seed := range 3000 {
		s := sample.From(seed)
		e := s.Edit(s.Tree(4), 4)
		l, ok := patch.Encode(e, math.MaxInt)
		if !ok {
			t.Fatalf("%+v has no words", e)
		}
		got, err := patch.Decode(l)
		if err != api.OK || !edit.Equal(got, e) {
			t.Fatalf("%+v is told again as %+v, %d", e, got, err)
		}
		n := normal.Edit(e)
		if got, ok := patch.Read(patch.Tree(n)); !ok || !edit.Equal(got, n) {
			t.Fatalf("%+v is read as %+v", n, got)
		}
	}
}

// 27.2
func TestEncodeRefuses(t *testing.T) {
	deep := func(n int) api.Edit {
		e := words()
		for range n - 1 {
			e = kids(api.KidEdit{E: e})
		}
		return e
	}
	heavy := func(n int) api.Edit {
		e := list(api.Void)
		l := make([]api.Tree, n)
		for i := range l {
			l[i] = atom(0)
		}
		e.Ops = []api.Op{{Kind: api.Insert, L: l}}
		return e
	}
	for _, c := range []struct {
		name string
		e    api.Edit
		want bool
	}{
		{"no kind", api.Edit{Kind: 4}, false},
		{"a word twice", words(api.WordEdit{Mask: 1}, api.WordEdit{Mask: 1}), false},
		{"Same with steps", api.Edit{Ops: []api.Op{keep(1)}}, false},
		// An edit within another one is three deep: in a list, in a struct.
		{"21 within one another", deep(21), true},
		{"22 within one another", deep(22), true},
		{"23 within one another", deep(23), false},
		// A struct of a word and a kid, a list of a struct of a word and a kid, and a list: 3 + 1 + 3 + 1.
		{"65536 in all", heavy(65536 - 8), true},
		{"65537 in all", heavy(65536 - 7), false},
	} {
		l, ok := patch.Encode(c.e, api.MaxOut)
		if ok != c.want || !ok && len(l) != 0 {
			t.Errorf("%s: %d words, %v", c.name, len(l), ok)
		}
		if ok {
			if e, err := patch.Decode(l); err != api.OK || !edit.Equal(e, c.e) {
				t.Errorf("%s is told again otherwise: %d", c.name, err)
			}
		}
	}
	for _, n := range []int{0, -1, math.MinInt} {
		if l, ok := patch.Encode(api.Edit{}, n); ok || len(l) != 0 {
			t.Errorf("Same, of %d words at the most: %x", n, l)
		}
	}
}

// 27.2
func TestDecodeRefuses(t *testing.T) {
	for _, c := range []struct {
		name string
		l    []uint64
		want api.Errno
	}{
		{"no words", nil, api.ErrBounds},
		{"something else", []uint64{3}, api.ErrCap},
		{"a pointer to itself", []uint64{0x00010000fffffffc}, api.ErrLimit},
		{"words that are not just a tree's", []uint64{0x0000000200000000, 2, 0}, api.ErrForm},
		{"a word is left", []uint64{0, 0}, api.ErrForm},
		{"a tree that is no edit's", []uint64{0x0000000100000000, 4}, api.ErrPatch},
		{"a struct of nothing", []uint64{0xfffffffc}, api.ErrPatch},
		{"a list", []uint64{0x0000000200000001}, api.ErrPatch},
	} {
		if e, err := patch.Decode(c.l); err != c.want || !edit.Equal(e, api.Edit{}) {
			t.Errorf("%s: %+v, %d, not %d", c.name, e, err, c.want)
		}
	}
}
