package compose

import "cento/api"

// lastAt is the greatest number of a word, or a kid, that is edited.
const lastAt = api.MaxWords - 2

// Some tells a tree on which a right edit is defined.
func Some(e api.Edit) api.Tree {
	switch e.Kind {
	case api.Replace:
		return e.Old
	case api.StructEdit:
		return someStruct(e)
	case api.ListEdit:
		return someList(e)
	}
	return api.Tree{}
}

func someStruct(e api.Edit) api.Tree {
	t := api.Tree{Kind: api.Struct}
	for _, w := range e.Words {
		for len(t.Words) < min(w.At, lastAt) {
			t.Words = append(t.Words, 0)
		}
		t.Words = append(t.Words, w.Old)
	}
	for _, k := range e.Kids {
		for len(t.Kids) < min(k.At, lastAt) {
			t.Kids = append(t.Kids, api.Tree{})
		}
		t.Kids = append(t.Kids, Some(k.E))
	}
	return t
}

func someList(e api.Edit) api.Tree {
	t := api.Tree{Kind: e.List}
	for _, o := range e.Ops {
		switch o.Kind {
		case api.Keep:
			for range min(o.N, api.MaxList) {
				t.Kids = append(t.Kids, blank(e.List))
			}
		case api.Delete:
			t.Kids = append(t.Kids, o.L...)
		case api.Descend:
			t.Kids = append(t.Kids, Some(o.E))
		}
	}
	return t
}

// blank tells a kid that a list of a kind may have.
func blank(list int) api.Tree {
	switch list {
	case api.Pointers:
		return api.Tree{}
	case api.Composite:
		return api.Tree{Kind: api.Struct}
	}
	return api.Tree{Kind: api.Atom, Words: []uint64{0}}
}
