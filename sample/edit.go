package sample

import (
	"cento/api"
	"cento/tree"
	"cento/word"
)

// Edit tells a right edit that is defined on a right tree, no atom. It is not as edits are written.
func (s *Source) Edit(t api.Tree, depth int) api.Edit {
	if s.Once(8) {
		return api.Edit{}
	}
	return s.Change(t, depth)
}

// Change tells an edit likewise that is not Same.
func (s *Source) Change(t api.Tree, depth int) api.Edit {
	switch {
	case t.Kind == api.Null || s.Once(8):
		return api.Edit{Kind: api.Replace, Old: t, New: s.Like(t, depth)}
	case t.Kind == api.Struct:
		return s.structEdit(t, depth)
	}
	return s.listEdit(t, depth)
}

func (s *Source) structEdit(t api.Tree, depth int) api.Edit {
	e := api.Edit{Kind: api.StructEdit}
	for at := range 4 {
		if s.Once(3) {
			e.Words = append(e.Words, s.wordEdit(at, tree.Word(t, at)))
		}
	}
	for at := range 4 {
		if s.Once(3) {
			e.Kids = append(e.Kids, api.KidEdit{At: at, E: s.Change(tree.Kid(t, at), depth-1)})
		}
	}
	return e
}

func (s *Source) wordEdit(at int, w uint64) api.WordEdit {
	masks := [6]byte{1, 2, 3, 0x80, 0x81, 0xff}
	mask := masks[s.Below(len(masks))]
	return api.WordEdit{At: at, Mask: mask, Old: w & word.Wide(mask), New: s.word() & word.Wide(mask)}
}

func (s *Source) listEdit(t api.Tree, depth int) api.Edit {
	e := api.Edit{Kind: api.ListEdit, List: t.Kind}
	left := t.Kids
	for len(left) > 0 {
		e.Ops = append(e.Ops, s.inserted(t.Kind, depth)...)
		n := 1 + s.Below(min(2, len(left)))
		switch s.Below(4) {
		case 0, 1:
			e.Ops = append(e.Ops, api.Op{Kind: api.Keep, N: n})
		case 2:
			e.Ops = append(e.Ops, api.Op{Kind: api.Delete, L: left[:n:n]})
		case 3:
			n = 1
			e.Ops = append(e.Ops, s.descend(t.Kind, left[0], depth-1))
		}
		left = left[n:]
	}
	e.Ops = append(e.Ops, s.inserted(t.Kind, depth)...)
	return e
}

// inserted tells steps, mostly none.
func (s *Source) inserted(kind, depth int) []api.Op {
	var l []api.Op
	for s.Once(4) {
		l = append(l, api.Op{Kind: api.Insert, L: []api.Tree{s.Kid(kind, depth-1)}})
	}
	return l
}

// descend tells a step that goes through one kid of a list of a kind.
func (s *Source) descend(kind int, k api.Tree, depth int) api.Op {
	switch {
	case tree.Data(kind):
		return api.Op{Kind: api.Keep, N: 1}
	case kind == api.Composite && s.Once(5):
		return api.Op{Kind: api.Descend, E: api.Edit{Kind: api.Replace, Old: k, New: s.Struct(depth)}}
	case kind == api.Composite:
		return api.Op{Kind: api.Descend, E: s.structEdit(k, depth)}
	}
	return api.Op{Kind: api.Descend, E: s.Change(k, depth)}
}
