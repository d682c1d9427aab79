package build_test

import (
	"math"
	"slices"
	"testing"

	"cento/api"
	"cento/build"
	"cento/canon"
	"cento/reader"
	"cento/sample"
	"cento/text"
	"cento/tree"
	"cento/unfold"
)

// Short forms of what the tests are written with.
var parse = sample.TreeOf

func equal(a, b [][]uint64) bool {
	return slices.EqualFunc(a, b, func(x, y []uint64) bool { return slices.Equal(x, y) })
}

var most = api.Limits{Depth: api.MaxDepth, Weight: api.MaxWeight}

var trees = []string{
	"_", "{}", "{5}", "{5,0|_}", "{5|p[_]}", "{|{1},{2}}", "{|{1|{2}},{3}}", "v[0,0]", "b[1,0,1]", "y[]", "y[1,2,3,4,5,6,7,8,9]", "t[1,2]", "f[1,2,3]", "e[7]",
	"p[]", "p[y[1],{2},_,y[]]", "c[]", "c[{},{}]", "c[{1},{},{2,3}]", "c[{1},{|y[1],y[2]},{|y[3]}]", "{|v[0],p[],{}}", "{1|{2|{3|{4|{5|{6}}}}},y[1,2,3]}",
	"p[{1},{2},{3},{4},{5},{6},{7},{8},{9},{a},{b},{c},{d},{e},{f},{10},{11},{12}]", "p[p[p[p[]]],c[{1|c[{2}]},{|c[{},{|_,y[1]}]}]]",
}

// 13.1
func TestLayout(t *testing.T) {
	type l = [][]uint64
	for _, c := range []struct {
		s          string
		size, most int
		want       [][]uint64
	}{
		{"_", 1, 1, l{{0}}},
		{"{}", 1, 1, l{{0xfffffffc}}},
		{"{5}", 2, 2, l{{0x0000000100000000, 5}}},
		// The example: a double landing pad.
		{"{5}", 1, 4, l{{0x0000000200000006}, {5}, {0x0000000100000002, 0x0000000100000000}}},
		// The content begins a segment, in which there is room for a pad.
		{"{5,6}", 3, 9, l{{0x0000000200000000, 5, 6}}},
		{"y[1,2,3,4,5,6,7,8,9]", 3, 9, l{{0x0000004a00000001, 0x0807060504030201, 9}}},
		{"{5,6,7}", 4, 9, l{{0x0000000300000000, 5, 6, 7}}},
		{"{5,6,7}", 3, 9, l{{0x0000000200000006}, {5, 6, 7}, {0x0000000100000002, 0x0000000300000000}}},
		{"{|{5,6}}", 3, 9, l{{0x0001000000000000, 0x0000000100000012}, {5, 6, 0x00000002fffffff4}}},
		// The pad is laid ahead of what lies in the content.
		{"{|{5|{6,7}}}", 3, 99, l{{0x0001000000000000, 0x0000000100000012}, {5, 0x0000000200000012, 0x00010001fffffff4}, {6, 7, 0x00000002fffffff4}}},
		{"c[{1},{2}]", 2, 99, l{{0x0000000200000006}, {0x0000000100000008, 1, 2}, {0x0000000100000002, 0x0000001700000001}}},
	} {
		a, ok := build.Build(parse(c.s), c.size, c.most)
		if !ok || !equal(a.Segments(), c.want) {
			t.Errorf("%s, size %d: %x, %v", c.s, c.size, a.Segments(), ok)
		}
	}
}

// 13.2
func TestItMeansTheTree(t *testing.T) {
	for _, s := range trees {
		x := tree.Norm(parse(s))
		words, ok := canon.Encode(x, api.MaxOut)
		if !ok {
			t.Fatalf("%s has no words", s)
		}
		for _, size := range []int{math.MinInt, 0, 1, 2, 3, 4, 5, 7, 10, 20, len(words), 1000, math.MaxInt} {
			a, ok := build.Build(x, size, api.MaxOut)
			if !ok {
				t.Errorf("%s, size %d: there is no room", s, size)
				continue
			}
			if a.Len() > api.MaxSegments {
				t.Errorf("%s, size %d: %d segments", s, size, a.Len())
			}
			got, err := unfold.Message(a, most)
			if err != api.OK || text.Print(got) != text.Print(x) {
				t.Errorf("%s, size %d: it means %s, %d", s, size, text.Print(got), err)
			}
			if size >= len(words) && !equal(a.Segments(), [][]uint64{words}) {
				t.Errorf("%s, size %d: it is not the tree's words: %x", s, size, a.Segments())
			}
		}
	}
}

// 13.1
func TestWhatIsLeft(t *testing.T) {
	for _, s := range trees {
		x := parse(s)
		for _, size := range []int{1, 2, 3, 5, 1000} {
			a, ok := build.Build(x, size, api.MaxOut)
			if !ok {
				t.Fatalf("%s, size %d: there is no room", s, size)
			}
			took := api.MaxOut - a.Left()
			b, ok := build.Build(x, size, took)
			if !ok || b.Left() != 0 || !equal(a.Segments(), b.Segments()) {
				t.Errorf("%s, size %d: of %d words there is no room", s, size, took)
			}
			if b, ok := build.Build(x, size, took-1); ok || b != nil {
				t.Errorf("%s, size %d: of %d words there is room", s, size, took-1)
			}
		}
	}
}

// 13.1: it is an arena of which words are given still.
func TestItIsAnArena(t *testing.T) {
	a, ok := build.Build(parse("{5}"), 3, 5)
	if !ok || a.Left() != 3 {
		t.Fatalf("%d left, %v", a.Left(), ok)
	}
	if at, ok := a.In(0, 1); at != 2 || !ok {
		t.Errorf("In: %d, %v", at, ok)
	}
	if segment, at, ok := a.Give(1); segment != 1 || at != 0 || !ok {
		t.Errorf("Give: %d, %d, %v", segment, at, ok)
	}
	if r, err := reader.Root(a); err != api.OK || r.Word(0) != 5 {
		t.Errorf("Root: %d, %d", r.Word(0), err)
	}
}

// 13.1
func TestBuildRefuses(t *testing.T) {
	atom := api.Tree{Kind: api.Atom, Words: []uint64{1}}
	for name, x := range map[string]api.Tree{
		"an atom":                atom,
		"an atom in a struct":    {Kind: api.Struct, Kids: []api.Tree{atom}},
		"no kind":                {Kind: 11},
		"nothing with something": {Words: []uint64{1}},
		"no structs":             {Kind: api.Composite, Kids: []api.Tree{{}}},
	} {
		if a, ok := build.Build(x, 10, 100); ok || a != nil {
			t.Errorf("%s: %x", name, a.Segments())
		}
	}
	for _, n := range []int{0, -1, math.MinInt} {
		if a, ok := build.Build(api.Tree{}, 10, n); ok || a != nil {
			t.Errorf("nothing, of %d words at the most", n)
		}
	}
	wide := api.Tree{Kind: api.Composite, Kids: make([]api.Tree, 1000)}
	for i := range wide.Kids {
		wide.Kids[i].Kind = api.Struct
	}
	wide.Kids[5].Words = make([]uint64, 1000)
	wide.Kids[5].Words[999] = 1
	if a, ok := build.Build(wide, 10, math.MaxInt); ok || a != nil {
		t.Error("more words than any arena has")
	}
}
