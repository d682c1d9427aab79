// Package sample makes trees, edits and messages for the tests of the layers. What it makes of a seed is the same each time.
package sample

import (
	"slices"

	"cento/api"
	"cento/tree"
)

// Source tells numbers that look as if by chance, but hang on its seed alone.
type Source struct{ state uint64 }

// From tells the source of a seed.
func From(seed int) *Source {
	s := &Source{state: uint64(seed)*0x9e3779b97f4a7c15 + 1}
	s.Below(2)
	s.Below(2)
	return s
}

// Below tells a number from 0 on that is less than n.
func (s *Source) Below(n int) int {
	s.state = s.state*6364136223846793005 + 1442695040888963407
	return int(s.state>>33) % n
}

// Once tells true once in so many times.
func (s *Source) Once(n int) bool { return s.Below(n) == 0 }

// word tells a word, mostly one of few.
func (s *Source) word() uint64 {
	few := [6]uint64{0, 1, 2, 0x0102, 0xff00000000000001, 0x8000000000000000}
	return few[s.Below(len(few))]
}

// Atom tells an atom that a list of data of a kind may have.
func (s *Source) Atom(kind int) api.Tree {
	most := [6]int{1, 2, 4, 4, 4, 4}
	return api.Tree{Kind: api.Atom, Words: []uint64{uint64(s.Below(most[kind-api.Void]))}}
}

// Tree tells a right tree, no atom, that is no deeper than this.
func (s *Source) Tree(depth int) api.Tree {
	if depth <= 0 || s.Once(6) {
		return api.Tree{}
	}
	if s.Once(2) {
		return s.Struct(depth)
	}
	return s.List(api.Void+s.Below(8), depth)
}

// Struct tells a right struct that is no deeper than this, 1 at least.
func (s *Source) Struct(depth int) api.Tree {
	t := api.Tree{Kind: api.Struct}
	for range s.Below(4) {
		t.Words = append(t.Words, s.word())
	}
	for range s.Below(4) {
		t.Kids = append(t.Kids, s.Tree(depth-1))
	}
	return t
}

// List tells a right list of a kind that is no deeper than this; one of structs is empty, if that is less than 2.
func (s *Source) List(kind, depth int) api.Tree {
	t := api.Tree{Kind: kind}
	if kind == api.Composite && depth < 2 {
		return t
	}
	for range s.Below(5) {
		t.Kids = append(t.Kids, s.Kid(kind, depth-1))
	}
	return t
}

// Kid tells what may be a kid of a list of a kind, and is no deeper than this.
func (s *Source) Kid(kind, depth int) api.Tree {
	switch {
	case tree.Data(kind):
		return s.Atom(kind)
	case kind == api.Composite:
		return s.Struct(depth)
	}
	return s.Tree(depth)
}

// Like tells a right tree that is much the same as one that is no deeper than this.
func (s *Source) Like(t api.Tree, depth int) api.Tree {
	if t.Kind == api.Null || t.Kind == api.Atom || s.Once(12) {
		return s.instead(t, depth)
	}
	t.Words = slices.Clone(t.Words)
	for i := range t.Words {
		if s.Once(4) {
			t.Words[i] = s.word()
		}
	}
	var kids []api.Tree
	for _, k := range t.Kids {
		if tree.List(t.Kind) && s.Once(6) {
			kids = append(kids, s.Kid(t.Kind, depth-1))
		}
		if !s.Once(6) {
			kids = append(kids, s.likeKid(t.Kind, k, depth-1))
		}
	}
	t.Kids = kids
	return t
}

// instead tells what may stand for nothing, for an atom (itself), or for a tree.
func (s *Source) instead(t api.Tree, depth int) api.Tree {
	if t.Kind == api.Atom || t.Kind == api.Null && !s.Once(4) {
		return t
	}
	return s.Tree(depth)
}

// likeKid tells a kid of a tree of a kind that is much the same as this one.
func (s *Source) likeKid(kind int, k api.Tree, depth int) api.Tree {
	if s.Once(2) {
		return k
	}
	if tree.Data(kind) {
		return s.Atom(kind)
	}
	like := s.Like(k, depth)
	if kind == api.Composite && like.Kind != api.Struct {
		return k
	}
	return like
}
