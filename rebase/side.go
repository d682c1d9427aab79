package rebase

import (
	"slices"

	"cento/api"
	"cento/apply"
	"cento/tree"
	"cento/word"
)

// side is what is left of one of both edits, and what it inserts ahead of the kids that come next. What it comes upon it notes as the mover does.
type side struct {
	*mover
	left api.Edit
	come []api.Tree
}

// sideOf tells the side of an edit, of which nothing is left yet.
func sideOf(m *mover, e api.Edit) *side {
	return &side{mover: m, left: api.Edit{Kind: e.Kind, List: e.List}}
}

// edit tells what is left; Same, if it does nothing.
func (s *side) edit() api.Edit {
	changes := func(o api.Op) bool { return o.Kind != api.Keep }
	if len(s.left.Words)+len(s.left.Kids) == 0 && !slices.ContainsFunc(s.left.Ops, changes) {
		return api.Edit{}
	}
	return s.left
}

// words lays what is left of edits of words behind the other side's.
func (s *side) words(own, others []api.WordEdit) {
	for _, w := range own {
		for len(others) > 0 && others[0].At < w.At {
			others = others[1:]
		}
		if len(others) > 0 && others[0].At == w.At {
			w = s.rest(w, others[0])
		}
		if w.Mask != 0 {
			s.left.Words = append(s.left.Words, w)
		}
	}
}

// rest tells what is left of an edit of a word behind another one of the same word.
func (s *side) rest(w, other api.WordEdit) api.WordEdit {
	both := word.Wide(w.Mask & other.Mask)
	s.apart = s.apart || (w.Old^other.Old)&both != 0
	s.clash = s.clash || (w.New^other.New)&both != 0
	mask := w.Mask &^ other.Mask
	return api.WordEdit{At: w.At, Mask: mask, Old: w.Old & word.Wide(mask), New: w.New & word.Wide(mask)}
}

// kid lays what is left of the edit of a kid.
func (s *side) kid(at int, e api.Edit) {
	if e.Kind != api.Same {
		s.left.Kids = append(s.left.Kids, api.KidEdit{At: at, E: e})
	}
}

func (s *side) op(o api.Op) { s.left.Ops = append(s.left.Ops, o) }

// gap lays what is left of what this side inserts, where the other one inserts these.
func (s *side) gap(others []api.Tree) {
	if len(others) > 0 {
		s.op(api.Op{Kind: api.Keep, N: len(others)})
	} else if len(s.come) > 0 {
		s.op(api.Op{Kind: api.Insert, L: s.come})
	}
}

// descend lays what is left of the edit of a kid that both edit.
func (s *side) descend(e api.Edit) {
	if e.Kind == api.Same {
		s.op(api.Op{Kind: api.Keep, N: 1})
		return
	}
	s.op(api.Op{Kind: api.Descend, E: e})
}

// step lays what is left of a part of a step, where the other side has another one, not both being Descends.
func (s *side) step(own, other api.Op) {
	switch {
	case other.Kind == api.Keep:
		s.op(own)
	case own.Kind == api.Keep && other.Kind == api.Descend:
		s.op(api.Op{Kind: api.Keep, N: 1})
	case own.Kind == api.Delete && other.Kind == api.Delete:
		s.apart = s.apart || !slices.EqualFunc(own.L, other.L, tree.Equal)
	case own.Kind == api.Delete && other.Kind == api.Descend:
		// The other side comes upon the same, from its end.
		_, ok := apply.Edit(other.E, own.L[0])
		s.clash, s.apart = true, s.apart || !ok
	}
}
