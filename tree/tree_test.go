package tree_test

import (
	"math"
	"testing"

	"cento/api"
	"cento/sample"
	"cento/tree"
)

// Short forms of what the tests are written with.
var atom = sample.Number

var null = api.Tree{}

func st(words []uint64, kids ...api.Tree) api.Tree {
	return api.Tree{Kind: api.Struct, Words: words, Kids: kids}
}

func ws(words ...uint64) []uint64 { return words }

func list(kind int, kids ...api.Tree) api.Tree {
	return api.Tree{Kind: kind, Kids: kids}
}

func atoms(kind int, numbers ...uint64) api.Tree {
	t := api.Tree{Kind: kind}
	for _, n := range numbers {
		t.Kids = append(t.Kids, atom(n))
	}
	return t
}

// nested tells n structs within one another, around a tree.
func nested(n int, t api.Tree) api.Tree {
	for range n {
		t = st(nil, t)
	}
	return t
}

// lists tells n lists of pointers within one another.
func lists(n int) api.Tree {
	t := list(api.Pointers)
	for range n - 1 {
		t = list(api.Pointers, t)
	}
	return t
}

// rows tells n lists of a struct within one another, which are twice as deep.
func rows(n int) api.Tree {
	t := null
	for range n {
		t = list(api.Composite, st(nil, t))
	}
	return t
}

// exact tells whether two trees are the same, field by field.
func exact(a, b api.Tree) bool {
	if a.Kind != b.Kind || len(a.Words) != len(b.Words) || len(a.Kids) != len(b.Kids) {
		return false
	}
	for i := range a.Words {
		if a.Words[i] != b.Words[i] {
			return false
		}
	}
	for i := range a.Kids {
		if !exact(a.Kids[i], b.Kids[i]) {
			return false
		}
	}
	return true
}

// some are right trees of all kinds.
func some() []api.Tree {
	return []api.Tree{
		null, st(nil), st(ws(0)), st(ws(5)), st(ws(5, 0)), st(ws(0, 5)), st(nil, null), st(nil, null, st(nil)), st(ws(5, 0), null), st(ws(5), st(ws(0), null), null),
		atoms(api.Void), atoms(api.Void, 0, 0), atoms(api.Bit, 1, 0, 1), atoms(api.Byte, 255, 0), atoms(api.Two, 65535), atoms(api.Four, math.MaxUint32), atoms(api.Eight, math.MaxUint64, 0),
		list(api.Pointers), list(api.Pointers, null), list(api.Pointers, st(ws(0)), null), list(api.Pointers, st(nil), null), list(api.Pointers, atoms(api.Byte, 1), list(api.Composite)),
		list(api.Composite), list(api.Composite, st(nil)), list(api.Composite, st(ws(0), null), st(ws(1, 2), list(api.Pointers, null))), list(api.Composite, st(nil), st(ws(1, 2), list(api.Pointers, null))),
		atom(0), atom(7),
	}
}

// 7.1
func TestKinds(t *testing.T) {
	for kind := -2; kind < 14; kind++ {
		if tree.List(kind) != (kind >= 2 && kind <= 9) {
			t.Errorf("List(%d)", kind)
		}
		if tree.Data(kind) != (kind >= 2 && kind <= 7) {
			t.Errorf("Data(%d)", kind)
		}
	}
	if tree.List(math.MaxInt) || tree.List(math.MinInt) || tree.Data(math.MaxInt) || tree.Data(math.MinInt) {
		t.Error("far kinds")
	}
}

// 7.1
func TestRight(t *testing.T) {
	for _, x := range some() {
		if !tree.Right(x) {
			t.Errorf("%+v is refused", x)
		}
	}
	for _, x := range []api.Tree{
		{Kind: -1}, {Kind: 11}, {Kind: api.Null, Words: ws(0)}, {Kind: api.Null, Kids: []api.Tree{null}},
		{Kind: api.Atom}, {Kind: api.Atom, Words: ws(1, 2)}, {Kind: api.Atom, Words: ws(1), Kids: []api.Tree{null}},
		st(nil, atom(1)), st(nil, st(nil, atom(1))), st(nil, api.Tree{Kind: 11}), st(nil, api.Tree{Words: ws(1)}),
		atoms(api.Void, 1), atoms(api.Bit, 2), atoms(api.Byte, 1, 256), atoms(api.Two, 1<<16), atoms(api.Four, 1<<32),
		list(api.Byte, null), list(api.Byte, st(nil)), list(api.Byte, api.Tree{Kind: api.Atom}), list(api.Byte, api.Tree{Kind: api.Atom, Words: ws(1), Kids: []api.Tree{null}}),
		{Kind: api.Byte, Words: ws(1)}, {Kind: api.Pointers, Words: ws(1)}, {Kind: api.Composite, Words: ws(1)},
		list(api.Pointers, atom(1)), list(api.Pointers, st(nil, atoms(api.Bit, 2))),
		list(api.Composite, null), list(api.Composite, atom(1)), list(api.Composite, list(api.Pointers)), list(api.Composite, st(nil), st(nil, atom(1))),
	} {
		if tree.Right(x) {
			t.Errorf("%+v is taken", x)
		}
	}
}

// 7.1
func TestRightAtTheLimits(t *testing.T) {
	for _, c := range []struct {
		name string
		x    api.Tree
		want bool
	}{
		{"65535 words", st(make([]uint64, 65535)), true},
		{"65536 words", st(make([]uint64, 65536)), false},
		{"65535 kids", st(nil, make([]api.Tree, 65535)...), true},
		{"65536 kids", st(nil, make([]api.Tree, 65536)...), false},
		{"a list of 2^20 - 1", list(api.Pointers, make([]api.Tree, 1<<20-1)...), true},
		{"a list of 2^20", list(api.Pointers, make([]api.Tree, 1<<20)...), false},
		{"64 deep", nested(64, null), true},
		{"65 deep", nested(65, null), false},
		{"64 deep, a list at the bottom", nested(63, atoms(api.Byte, 1)), true},
		{"65 deep, a list at the bottom", nested(64, atoms(api.Byte, 1)), false},
		{"65 deep, an empty list at the bottom", nested(64, list(api.Pointers)), false},
		{"64 deep, structs of a list", nested(62, list(api.Composite, st(nil))), true},
		{"65 deep, structs of a list", nested(63, list(api.Composite, st(nil))), false},
		{"1000 deep", nested(1000, null), false},
		{"64 lists", lists(64), true},
		{"65 lists", lists(65), false},
		{"63, lists of structs among them", st(nil, rows(31), st(nil)), true},
		{"65, lists of structs among them", st(nil, rows(32), st(nil)), false},
	} {
		if tree.Right(c.x) != c.want {
			t.Errorf("%s: %v", c.name, !c.want)
		}
	}
	voids := list(api.Void, make([]api.Tree, 1<<20-1)...)
	for i := range voids.Kids {
		voids.Kids[i] = atom(0)
	}
	if !tree.Right(voids) {
		t.Error("2^20 - 1 nothings are refused")
	}
	voids.Kids = append(voids.Kids, atom(0))
	if tree.Right(voids) {
		t.Error("2^20 nothings are taken")
	}
}

// 7.1
func TestNorm(t *testing.T) {
	for _, c := range [][2]api.Tree{
		{null, null},
		{{Kind: api.Null, Words: ws(5), Kids: []api.Tree{st(nil)}}, null},
		{st(ws(5, 0), null), st(ws(5))},
		{st(ws(0, 0)), st(nil)},
		{st(ws(0, 3, 0, 0)), st(ws(0, 3))},
		{st(nil, null, st(ws(0)), null, null), st(nil, null, st(nil))},
		{st(nil, null, null), st(nil)},
		{st(nil, st(nil, null)), st(nil, st(nil))},
		{list(api.Pointers, null, st(ws(1, 0)), null), list(api.Pointers, null, st(ws(1)), null)},
		{list(api.Composite, st(ws(1, 0)), st(ws(0), null)), list(api.Composite, st(ws(1)), st(nil))},
		{atoms(api.Byte, 1, 0), atoms(api.Byte, 1, 0)},
		{atom(0), atom(0)},
		{st(nil, null, atoms(api.Byte, 0, 0)), st(nil, null, atoms(api.Byte, 0, 0))},
	} {
		if got := tree.Norm(c[0]); !exact(got, c[1]) {
			t.Errorf("Norm of %+v: %+v", c[0], got)
		}
	}
}

// 7.1, 7.4
func TestEqual(t *testing.T) {
	for _, a := range some() {
		na := tree.Norm(a)
		if !tree.Equal(a, na) || !tree.Equal(na, a) || !exact(tree.Norm(na), na) || tree.Weight(na) > tree.Weight(a) || !tree.Right(na) {
			t.Errorf("the Norm of %+v is %+v", a, na)
		}
		for _, b := range some() {
			if got, want := tree.Equal(a, b), exact(na, tree.Norm(b)); got != want {
				t.Errorf("Equal(%+v, %+v): %v", a, b, got)
			}
		}
	}
	if !tree.Equal(api.Tree{Words: ws(1)}, api.Tree{Kids: []api.Tree{null}}) {
		t.Error("nothing is nothing, whatever else it has")
	}
	if tree.Equal(list(api.Pointers, null), list(api.Pointers)) || tree.Equal(list(api.Byte), list(api.Two)) || tree.Equal(atom(1), atom(2)) {
		t.Error("lists and atoms are alike")
	}
	if !tree.Equal(api.Tree{Kind: api.Struct, Words: []uint64{}, Kids: []api.Tree{}}, st(nil)) {
		t.Error("empty and nil lists are unlike")
	}
}

// 7.2
func TestWordAndKid(t *testing.T) {
	x := st(ws(4, 5), st(nil), atoms(api.Byte, 9))
	for i, want := range map[int]uint64{0: 4, 1: 5, 2: 0, -1: 0, math.MaxInt: 0, math.MinInt: 0} {
		if w := tree.Word(x, i); w != want {
			t.Errorf("Word(%d): %d", i, w)
		}
	}
	for i, want := range map[int]int{0: api.Struct, 1: api.Byte, 2: api.Null, -1: api.Null, math.MaxInt: api.Null, math.MinInt: api.Null} {
		if k := tree.Kid(x, i); k.Kind != want {
			t.Errorf("Kid(%d): %+v", i, k)
		}
	}
	if w := tree.Word(atom(7), 0); w != 7 {
		t.Errorf("an atom's word: %d", w)
	}
	if tree.Word(null, 0) != 0 || !exact(tree.Kid(null, 0), null) {
		t.Error("nothing has something")
	}
}

// 7.2
func TestDepthAndWeight(t *testing.T) {
	for _, c := range []struct {
		x             api.Tree
		depth, weight int
	}{
		{null, 0, 0}, {atom(5), 0, 1}, {st(nil), 1, 1}, {st(ws(5, 0), null), 1, 4}, {st(ws(5)), 1, 2}, {st(nil, st(ws(1, 2)), null), 2, 6},
		{list(api.Pointers), 1, 1}, {list(api.Pointers, null, null), 1, 3}, {list(api.Pointers, null, st(ws(1))), 2, 5},
		{atoms(api.Byte, 1, 2, 3), 1, 4}, {atoms(api.Void), 1, 1}, {atoms(api.Bit, 1), 1, 2},
		{list(api.Composite), 1, 1}, {list(api.Composite, st(nil)), 2, 2}, {list(api.Composite, st(ws(1), null), st(nil, list(api.Pointers, st(nil)))), 4, 9},
		{nested(3, atoms(api.Byte, 1)), 4, 8}, {nested(1000, null), 1000, 2000},
	} {
		if d := tree.Depth(c.x); d != c.depth {
			t.Errorf("Depth of %+v: %d", c.x, d)
		}
		if w := tree.Weight(c.x); w != c.weight {
			t.Errorf("Weight of %+v: %d", c.x, w)
		}
	}
}

// 7.3
func TestFrameAndSize(t *testing.T) {
	for _, c := range []struct {
		x                 api.Tree
		words, kids, size int
	}{
		{null, 0, 0, 0}, {st(nil), 0, 0, 0}, {st(ws(5, 0), null), 0, 0, 1}, {st(ws(0, 5), null, st(nil)), 0, 0, 4}, {st(ws(5), list(api.Pointers, null)), 0, 0, 3},
		{list(api.Pointers, null, null), 0, 0, 2}, {list(api.Pointers, st(ws(1, 2)), st(ws(0))), 2, 0, 4},
		{list(api.Composite), 0, 0, 1}, {list(api.Composite, st(nil), st(nil)), 0, 0, 1},
		{list(api.Composite, st(ws(1)), st(ws(1, 2, 3)), st(nil, null, st(ws(7)))), 3, 2, 17},
		{list(api.Composite, st(ws(0, 0)), st(ws(1), null)), 2, 1, 3},
		{list(api.Pointers, atoms(api.Void, 0, 0), atoms(api.Bit, make([]uint64, 65)...), atoms(api.Byte, make([]uint64, 9)...), atoms(api.Two, make([]uint64, 4)...), atoms(api.Four, 1, 2, 3), atoms(api.Eight, 1)), 0, 65, 6 + 0 + 2 + 2 + 1 + 2 + 1},
		{nested(1000, null), 0, 1, 999},
	} {
		if n := tree.Size(c.x); n != c.size {
			t.Errorf("Size of %+v: %d", c.x, n)
		}
		if !tree.List(c.x.Kind) {
			continue
		}
		if w, k := tree.Frame(c.x); w != c.words || k != c.kids {
			t.Errorf("Frame of %+v: %d, %d", c.x, w, k)
		}
	}
	if n := tree.Size(atom(5)); n != 0 {
		t.Errorf("Size of an atom: %d", n)
	}
}

// R4
func TestNothingIsChanged(t *testing.T) {
	for i, x := range some() {
		tree.Norm(x)
		tree.Size(x)
		tree.Equal(x, st(ws(0)))
		if !exact(x, some()[i]) {
			t.Errorf("%+v is changed", some()[i])
		}
	}
}
