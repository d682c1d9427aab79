package conflict_test

import (
	"slices"
	"testing"

	"cento/api"
	"cento/conflict"
	"cento/merge"
	"cento/sample"
	"cento/text"
	"cento/tree"
)

// Short forms of what the tests are written with.
var tr = sample.TreeOf

// of tells a conflict of three texts.
func of(base, ours, theirs string, path ...api.Step) api.Conflict {
	return api.Conflict{Path: path, Base: tr(base), Ours: tr(ours), Theirs: tr(theirs)}
}

// equal tells whether conflicts are the same, their trees as they stand.
func equal(a, b []api.Conflict) bool {
	return slices.EqualFunc(a, b, func(x, y api.Conflict) bool {
		return slices.Equal(x.Path, y.Path) && text.Print(x.Base) == text.Print(y.Base) && text.Print(x.Ours) == text.Print(y.Ours) && text.Print(x.Theirs) == text.Print(y.Theirs)
	})
}

// some are conflicts, and what their tree means.
func some() map[string][]api.Conflict {
	return map[string][]api.Conflict{
		"c[]":                                    nil,
		"c[{|e[1],{1},{2},{3}}]":                 {of("{1}", "{2}", "{3}", api.Step{Kind: api.Word})},
		"c[{|e[]}]":                              {of("_", "_", "_")},
		"c[{|e[],{1,0},y[]},{|e[4,a],_,_,p[_]}]": {of("{1,0}", "y[]", "_"), of("_", "_", "p[_]", api.Step{Kind: api.Kid, At: 1}, api.Step{Kind: api.Gap, At: 2})},
		"c[{|e[400000],_,_,{}}]":                 {of("_", "_", "{}", api.Step{Kind: api.Kid, At: api.MaxList})},
	}
}

// 33.1, 33.3
func TestTreeAndRead(t *testing.T) {
	for s, l := range some() {
		got := conflict.Tree(l)
		if !tree.Right(got) || !tree.Equal(got, tr(s)) {
			t.Errorf("%s: the tree is %s", s, text.Print(got))
		}
		if back, ok := conflict.Read(tr(s)); !ok || !equal(back, l) {
			t.Errorf("%s is read as %+v, %v", s, back, ok)
		}
		if back, ok := conflict.Read(got); !ok || !equal(back, l) {
			t.Errorf("%s is read again as %+v, %v", s, back, ok)
		}
	}
	if l, ok := conflict.Read(tr("c[{0|e[],{5,0|_},_,_,_}]")); !ok || len(l) != 1 || text.Print(l[0].Base) != "{5,0|_}" {
		t.Errorf("trees do not stand as they did: %+v, %v", l, ok)
	}
}

// 33.1
func TestReadRefuses(t *testing.T) {
	for _, s := range []string{
		"_", "{}", "p[]", "y[]", "e[]", "p[{|e[]}]", "c[{}]", "c[{1|e[]}]", "c[{|_,{1}}]", "c[{|{},{1}}]", "c[{|y[]}]", "c[{|e[3]}]", "c[{|e[400004]}]", "c[{|e[]},{}]", "c[{|e[],_,_,_,{}}]", "{|{|e[]}}",
	} {
		if l, ok := conflict.Read(tr(s)); ok || len(l) != 0 {
			t.Errorf("%s is read as %+v", s, l)
		}
	}
}

// 33.2
func TestTurned(t *testing.T) {
	l := []api.Conflict{of("{1}", "{2}", "{3}", api.Step{Kind: api.Word}), of("_", "y[]", "_")}
	want := []api.Conflict{of("{1}", "{3}", "{2}", api.Step{Kind: api.Word}), of("_", "_", "y[]")}
	got := conflict.Turned(l)
	if !equal(got, want) {
		t.Errorf("%+v", got)
	}
	if !equal(conflict.Turned(got), l) {
		t.Errorf("turned twice: %+v", conflict.Turned(got))
	}
	if len(conflict.Turned(nil)) != 0 {
		t.Error("none, turned")
	}
	got[0].Path[0].At = 9
	if l[0].Path[0].At != 0 {
		t.Error("a path is shared")
	}
}

// 33.3
func TestConflictsOfMerges(t *testing.T) {
	found := 0
	for seed := range 2000 {
		s := sample.From(seed)
		o := s.Tree(4)
		_, l := merge.Trees(o, s.Like(o, 4), s.Like(o, 4), 100)
		found += len(l)
		if back, ok := conflict.Read(conflict.Tree(l)); !ok || !equal(back, l) {
			t.Fatalf("%+v is read as %+v, %v", l, back, ok)
		}
	}
	if found < 300 {
		t.Errorf("only %d conflicts", found)
	}
}
