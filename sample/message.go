package sample

import (
	"cento/api"
	"cento/ptr"
	"cento/tree"
	"cento/word"
)

// message is words of one segment, which are laid up to the end.
type message []uint64

// Message tells words that mean a right tree, no atom, just as it stands: nothing is trimmed, each kid but the last one stands behind the next ones, and a nought is between.
func Message(t api.Tree) []uint64 {
	m := make(message, 1)
	m.point(0, t)
	return m
}

func (m *message) point(at int, t api.Tree) {
	if t.Kind == api.Null {
		return
	}
	p := ptr.Ptr{Kind: ptr.List, Code: t.Kind - api.Void, Count: len(t.Kids)}
	words, kids := tree.Frame(t)
	switch t.Kind {
	case api.Struct:
		p = ptr.Ptr{Kind: ptr.Struct, Data: len(t.Words), Ptrs: len(t.Kids)}
	case api.Composite:
		p.Count *= words + kids
	}
	*m = append(*m, 0)
	begin := len(*m)
	p.Off = begin - at - 1
	(*m)[at], _ = ptr.Encode(p)
	n, _ := p.Words()
	*m = append(*m, make([]uint64, n)...)
	switch t.Kind {
	case api.Struct:
		m.lay(begin, t, len(t.Words))
	case api.Composite:
		m.structs(begin, t, words, kids)
	default:
		m.kids(begin, t)
	}
}

// lay lays a struct's words, and its kids behind so many.
func (m *message) lay(at int, t api.Tree, words int) {
	copy((*m)[at:], t.Words)
	for i := len(t.Kids) - 1; i >= 0; i-- {
		m.point(at+words+i, t.Kids[i])
	}
}

func (m *message) structs(at int, t api.Tree, words, kids int) {
	if len(t.Kids) > 0 {
		(*m)[at], _ = ptr.Encode(ptr.Ptr{Kind: ptr.Struct, Off: len(t.Kids), Data: words, Ptrs: kids})
	}
	for i, k := range t.Kids {
		m.lay(at+1+i*(words+kids), k, words)
	}
}

// kids lays the kids of a list of data, or of pointers.
func (m *message) kids(at int, t api.Tree) {
	if t.Kind == api.Pointers {
		m.lay(at, api.Tree{Kids: t.Kids}, 0)
		return
	}
	var l []uint64
	for _, k := range t.Kids {
		l = append(l, tree.Word(k, 0))
	}
	words, _ := word.Put(t.Kind-api.Void, l)
	copy((*m)[at:], words)
}
