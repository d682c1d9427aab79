package sample

import (
	"cento/api"
	"cento/arena"
	"cento/etext"
	"cento/ptr"
	"cento/reader"
	"cento/text"
)

// TreeOf tells the tree of a text. It panics, if there is none, as do all here: what a test is written with must be right.
func TreeOf(s string) api.Tree {
	t, err := text.Parse(s)
	need(err == api.OK, s+" is no tree's text")
	return t
}

// EditOf tells the edit of a text.
func EditOf(s string) api.Edit {
	e, err := etext.Parse(s)
	need(err == api.OK, s+" is no edit's text")
	return e
}

func need(ok bool, fault string) {
	if !ok {
		panic(fault)
	}
}

// Number tells an atom.
func Number(n uint64) api.Tree {
	return api.Tree{Kind: api.Atom, Words: []uint64{n}}
}

// Nested tells n structs within one another.
func Nested(n int) api.Tree {
	t := api.Tree{Kind: api.Struct}
	for range n - 1 {
		t = api.Tree{Kind: api.Struct, Kids: []api.Tree{t}}
	}
	return t
}

// Nothing tells whether a tree is the zero one.
func Nothing(t api.Tree) bool {
	return t.Kind == api.Null && len(t.Words)+len(t.Kids) == 0
}

// Replace tells the edit of two trees' texts.
func Replace(old, now string) api.Edit {
	return api.Edit{Kind: api.Replace, Old: TreeOf(old), New: TreeOf(now)}
}

// Words, Kids and Ops tell the edits that have these.
func Words(l ...api.WordEdit) api.Edit { return api.Edit{Kind: api.StructEdit, Words: l} }

// Kids tells likewise.
func Kids(l ...api.KidEdit) api.Edit { return api.Edit{Kind: api.StructEdit, Kids: l} }

// Ops tells likewise, of lists of a kind.
func Ops(list int, l ...api.Op) api.Edit {
	return api.Edit{Kind: api.ListEdit, List: list, Ops: l}
}

// Byte tells the edit of the lowest byte of the word 0.
func Byte(old, now uint64) api.Edit {
	return Words(api.WordEdit{Mask: 1, Old: old, New: now})
}

// Keep, Delete, Insert and Descend tell steps.
func Keep(n int) api.Op { return api.Op{Kind: api.Keep, N: n} }

// Delete tells likewise.
func Delete(l ...api.Tree) api.Op { return api.Op{Kind: api.Delete, L: l} }

// Insert tells likewise.
func Insert(l ...api.Tree) api.Op { return api.Op{Kind: api.Insert, L: l} }

// Descend tells likewise.
func Descend(e api.Edit) api.Op { return api.Op{Kind: api.Descend, E: e} }

// Pointer tells the word of a pointer that has one.
func Pointer(p ptr.Ptr) uint64 {
	w, ok := ptr.Encode(p)
	need(ok, "a pointer has no word")
	return w
}

// ToStruct, ToList and ToFar tell pointers.
func ToStruct(off, data, ptrs int) ptr.Ptr {
	return ptr.Ptr{Kind: ptr.Struct, Off: off, Data: data, Ptrs: ptrs}
}

// ToList tells likewise.
func ToList(off, code, count int) ptr.Ptr {
	return ptr.Ptr{Kind: ptr.List, Off: off, Code: code, Count: count}
}

// ToFar tells likewise.
func ToFar(segment, at int, double bool) ptr.Ptr {
	return ptr.Ptr{Kind: ptr.Far, Segment: segment, Off: at, Double: double}
}

// Root tells the value that a message means.
func Root(a *arena.Arena) reader.Ref {
	r, err := reader.Root(a)
	need(err == api.OK, "a message means nothing")
	return r
}

// Segment tells the value that a message of these words means.
func Segment(words ...uint64) reader.Ref {
	return Root(arena.Of([][]uint64{words}))
}

// Value tells the value of a tree in a message in which nothing is trimmed.
func Value(t api.Tree) reader.Ref { return Segment(Message(t)...) }

// ValueOf tells the value of the tree of a text likewise.
func ValueOf(s string) reader.Ref { return Value(TreeOf(s)) }
