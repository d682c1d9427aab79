package bundle_test

import (
	"math"
	"slices"
	"strings"
	"testing"

	"cento/api"
	"cento/apply"
	"cento/bundle"
	"cento/canon"
	"cento/edit"
	"cento/etext"
	"cento/normal"
	"cento/sample"
	"cento/text"
	"cento/tree"
)

// Short forms of what the tests are written with.
var tr = sample.TreeOf

// of tells the bundle of a tree's text, and edits' texts.
func of(first string, log ...string) bundle.Bundle {
	b := bundle.Bundle{First: tr(first)}
	for _, s := range log {
		b.Log = append(b.Log, sample.EditOf(s))
	}
	return b
}

// shown tells a bundle as it stands.
func shown(b bundle.Bundle) string {
	s := text.Print(b.First)
	for _, e := range b.Log {
		s += " " + etext.Print(e)
	}
	return s
}

// 44.1
func TestAtAndRight(t *testing.T) {
	b := of("{1,0|_}", "s{0:1:1:2|}", "=", "({2}>y[1])")
	for n, want := range []string{"{1}", "{2}", "{2}", "y[1]"} {
		if x, ok := b.At(n); !ok || text.Print(x) != want {
			t.Errorf("At(%d): %s, %v, not %s", n, text.Print(x), ok, want)
		}
	}
	if !b.Right() || !of("_").Right() {
		t.Error("it may not be")
	}
	for _, n := range []int{-1, 4, math.MaxInt, math.MinInt} {
		if x, ok := b.At(n); ok || x.Kind != 0 {
			t.Errorf("At(%d): %s", n, text.Print(x))
		}
	}
	grow := api.Edit{Kind: api.StructEdit, Kids: []api.KidEdit{{At: 0, E: api.Edit{Kind: api.Replace, New: sample.Nested(64)}}}}
	for _, c := range []struct {
		name string
		b    bundle.Bundle
		good int
	}{
		{"an atom", bundle.Bundle{First: api.Tree{Kind: api.Atom, Words: []uint64{1}}}, -1},
		{"a tree that is not right", bundle.Bundle{First: api.Tree{Words: []uint64{1}}}, -1},
		{"an edit that is not right", bundle.Bundle{First: tr("{1}"), Log: []api.Edit{{}, {Kind: 4}}}, 1},
		{"an edit that is not right, but would do", bundle.Bundle{First: tr("{1}"), Log: []api.Edit{{List: 4}}}, 0},
		{"an edit that is not defined", of("{1}", "s{0:1:1:2|}", "s{0:1:1:2|}"), 1},
		{"what becomes is not right", bundle.Bundle{First: tr("{1}"), Log: []api.Edit{grow}}, 0},
	} {
		if c.b.Right() {
			t.Errorf("%s: it may be", c.name)
		}
		for n := range len(c.b.Log) + 1 {
			if x, ok := c.b.At(n); ok != (n <= c.good) || !ok && x.Kind != 0 {
				t.Errorf("%s: At(%d): %s, %v", c.name, n, text.Print(x), ok)
			}
		}
	}
}

// 44.1
func TestBetween(t *testing.T) {
	b := of("{1,1}", "s{0:1:1:2|}", "s{1:1:1:3|}", "s{0:1:2:4|}")
	for _, c := range []struct {
		from, to int
		want     string
	}{
		{0, 0, "="}, {3, 3, "="}, {0, 1, "s{0:1:1:2|}"}, {1, 0, "s{0:1:2:1|}"}, {0, 3, "s{0:1:1:4,1:1:1:3|}"}, {3, 0, "s{0:1:4:1,1:1:3:1|}"}, {1, 3, "s{0:1:2:4,1:1:1:3|}"}, {2, 1, "s{1:1:3:1|}"},
	} {
		if e, ok := b.Between(c.from, c.to); !ok || etext.Print(e) != c.want {
			t.Errorf("Between(%d, %d): %s, %v, not %s", c.from, c.to, etext.Print(e), ok, c.want)
		}
	}
	for _, c := range [][2]int{{-1, 0}, {0, -1}, {0, 4}, {4, 0}, {4, 4}, {math.MinInt, math.MaxInt}, {math.MaxInt, math.MinInt}} {
		if e, ok := b.Between(c[0], c[1]); ok || !edit.Equal(e, api.Edit{}) {
			t.Errorf("Between(%d, %d): %s", c[0], c[1], etext.Print(e))
		}
	}
	// Edits that are never defined one behind the other are not made one, either way.
	b = of("{1}", "s{0:1:1:2|}", "s{0:1:1:2|}")
	for _, c := range [][2]int{{0, 2}, {2, 0}} {
		if e, ok := b.Between(c[0], c[1]); ok || !edit.Equal(e, api.Edit{}) {
			t.Errorf("Between(%d, %d): %s", c[0], c[1], etext.Print(e))
		}
	}
	if e, ok := b.Between(2, 1); !ok || etext.Print(e) != "s{0:1:2:1|}" {
		t.Errorf("Between(2, 1): %s, %v", etext.Print(e), ok)
	}
}

// 44.2
func TestTreeAndRead(t *testing.T) {
	for _, c := range []struct {
		b          bundle.Bundle
		tree, read string
	}{
		{of("_"), "{|_,p[]}", "_"},
		{of("{1,0}"), "{|{1,0},p[]}", "{1,0}"},
		{of("{1}", "="), "{1|{1},p[_]}", "{1} ="},
		{of("{1}", "s{0:1:1:2|}", "({2,0}>_)"), "{2|{1},p[{2|c[{100000000,1,2}]},{1|{2}}]}", "{1} s{0:1:1:2|} ({2}>_)"},
		{of("y[1]", "ly[+y[2],-y[1]]"), "{1|y[1],p[{403|c[{1|y[1]},{2|y[2]}]}]}", "y[1] ly[-y[1],+y[2]]"},
	} {
		if got := bundle.Tree(c.b); !tree.Right(got) || !tree.Equal(got, tr(c.tree)) {
			t.Errorf("%s has the tree %s, not %s", shown(c.b), text.Print(got), c.tree)
		}
		if b, ok := bundle.Read(tr(c.tree)); !ok || shown(b) != c.read {
			t.Errorf("%s is read as %s, %v, not %s", c.tree, shown(b), ok, c.read)
		}
	}
	// Trees of edits are Norms, then; the first one is as it stands.
	if b, ok := bundle.Read(tr("{1,0|{1,0|_},p[{1|{1,0},{0|_}}],_}")); !ok || shown(b) != "{1,0|_} ({1}>{})" {
		t.Errorf("%s, %v", shown(b), ok)
	}
}

// 44.2
func TestReadRefuses(t *testing.T) {
	for _, s := range []string{
		"_", "{}", "p[]", "y[1]", "{1}", "{|_}", "{|{1}}", "{1|_,p[]}", "{0,1|_,p[]}", "{|_,p[],{}}", "{|_,c[]}", "{|_,{}}", "{|_,y[1]}", "{|_,p[_]}", "{2|_,p[_]}", "{1|_,p[{}]}", "{1|_,p[{4}]}", "{1|_,p[y[1]]}", "{1|_,c[{2}]}",
		// Not defined there.
		"{1|{1},p[{1}]}", "{1|_,p[{2}]}", "{2|{1},p[{2|c[{100000000,1,2}]},{2|c[{100000000,1,2}]}]}",
		// Not as it is written.
		"{1|y[1],p[{403|c[{2|y[2]},{1|y[1]}]}]}", "{1|y[1,2],p[{403|c[{100},{100}]}]}", "{1|c[{}],p[{903|c[{3|{2}}]}]}",
	} {
		if b, ok := bundle.Read(tr(s)); ok || shown(b) != "_" {
			t.Errorf("%s is read as %s", s, shown(b))
		}
	}
}

// 44.3
func TestEncodeAndDecode(t *testing.T) {
	b := of("{1}", "s{0:1:1:2|}")
	want, _ := canon.Encode(tr("{1|{1},p[{2|c[{100000000,1,2}]}]}"), api.MaxOut)
	for _, most := range []int{len(want), len(want) + 1, math.MaxInt} {
		if l, ok := bundle.Encode(b, most); !ok || !slices.Equal(l, want) {
			t.Errorf("at most %d: %x, %v", most, l, ok)
		}
	}
	for _, most := range []int{len(want) - 1, 0, -1, math.MinInt} {
		if l, ok := bundle.Encode(b, most); ok || len(l) != 0 {
			t.Errorf("at most %d: %x", most, l)
		}
	}
	if got, err := bundle.Decode(want); err != api.OK || shown(got) != shown(b) {
		t.Errorf("%s, %d", shown(got), err)
	}
	voids := func(n int) string { return "v[" + strings.Repeat("0,", n-1) + "0]" }
	for _, c := range []struct {
		name string
		b    bundle.Bundle
		want bool
	}{
		{"what may not be", of("{1}", "s{0:1:2:1|}"), false},
		{"an atom", bundle.Bundle{First: api.Tree{Kind: api.Atom, Words: []uint64{1}}}, false},
		{"64 deep", bundle.Bundle{First: sample.Nested(63)}, true},
		{"65 deep", bundle.Bundle{First: sample.Nested(64)}, false},
		// The struct 4 (its word is 0), the pointers 1, and the list 1.
		{"65536 in all", of(voids(65536 - 5)), true},
		{"65537 in all", of(voids(65536 - 4)), false},
	} {
		l, ok := bundle.Encode(c.b, api.MaxOut)
		if ok != c.want || !ok && len(l) != 0 {
			t.Errorf("%s: %d words, %v", c.name, len(l), ok)
		}
		if got, err := bundle.Decode(l); ok && (err != api.OK || shown(got) != shown(c.b)) {
			t.Errorf("%s: it is told again otherwise, %d", c.name, err)
		}
	}
}

// 44.3
func TestDecodeRefuses(t *testing.T) {
	tree := func(s string) []uint64 {
		l, ok := canon.Encode(tr(s), api.MaxOut)
		if !ok {
			t.Fatalf("%s has no words", s)
		}
		return l
	}
	for _, c := range []struct {
		name string
		l    []uint64
		want api.Errno
	}{
		{"no words", nil, api.ErrBounds},
		{"something else", []uint64{3}, api.ErrCap},
		{"a pointer to itself", []uint64{0x00010000fffffffc}, api.ErrLimit},
		{"a word is left", append(tree("{|_,p[]}"), 0), api.ErrForm},
		{"nothing", []uint64{0}, api.ErrPatch},
		{"a count that is not so", tree("{1|_,p[]}"), api.ErrPatch},
		{"an edit that is not defined", tree("{1|_,p[{2}]}"), api.ErrPatch},
	} {
		if b, err := bundle.Decode(c.l); err != c.want || shown(b) != "_" {
			t.Errorf("%s: %s, %d, not %d", c.name, shown(b), err, c.want)
		}
	}
}

// 44.4
func TestManyBundles(t *testing.T) {
	for seed := range 1000 {
		s := sample.From(seed)
		b := bundle.Bundle{First: s.Tree(3)}
		trees := []api.Tree{tree.Norm(b.First)}
		for range s.Below(5) {
			now := trees[len(trees)-1]
			e := s.Edit(now, 3)
			next, _ := apply.Edit(e, now)
			b.Log, trees = append(b.Log, e), append(trees, next)
		}
		if !b.Right() {
			t.Fatalf("%s may not be", shown(b))
		}
		for from := range trees {
			for to := range trees {
				e, ok := b.Between(from, to)
				got, defined := apply.Edit(e, trees[from])
				if !ok || !defined || !tree.Equal(got, trees[to]) || !edit.Equal(e, normal.Edit(e)) {
					t.Fatalf("%s: from %d to %d: %s, %v: %s, %v", shown(b), from, to, etext.Print(e), ok, text.Print(got), defined)
				}
			}
		}
		l, ok := bundle.Encode(b, api.MaxOut)
		got, err := bundle.Decode(l)
		want := bundle.Bundle{First: tree.Norm(b.First)}
		for _, e := range b.Log {
			want.Log = append(want.Log, normal.Edit(e))
		}
		if !ok || err != api.OK || shown(got) != shown(want) {
			t.Fatalf("%s is told again as %s, %v, %d", shown(b), shown(got), ok, err)
		}
		if read, ok := bundle.Read(bundle.Tree(b)); !ok || shown(read) != strings.Replace(shown(want), text.Print(want.First), text.Print(b.First), 1) {
			t.Fatalf("%s is read as %s, %v", shown(b), shown(read), ok)
		}
	}
}
