package unfold_test

import (
	"testing"

	"cento/api"
	"cento/arena"
	"cento/reader"
	"cento/sample"
	"cento/text"
	"cento/unfold"
)

// Short forms of what the tests are written with.
var w, structOf, listOf, farTo = sample.Pointer, sample.ToStruct, sample.ToList, sample.ToFar

var most = api.Limits{Depth: api.MaxDepth, Weight: api.MaxWeight}

// 11.1, 11.2
func TestValueAndMessage(t *testing.T) {
	type l = [][]uint64
	for _, c := range []struct {
		segments         [][]uint64
		stands, normally string
	}{
		{l{{0}}, "_", "_"},
		{l{{w(structOf(0, 1, 0)), 0}}, "{0}", "{}"},
		{l{{w(structOf(0, 2, 2)), 7, 0, w(structOf(1, 1, 0)), 0, 0}}, "{7,0|{0},_}", "{7|{}}"},
		{l{{w(structOf(-1, 0, 0))}}, "{}", "{}"},
		{l{{w(listOf(0, 0, 2))}}, "v[0,0]", "v[0,0]"},
		{l{{w(listOf(0, 1, 3)), 5}}, "b[1,0,1]", "b[1,0,1]"},
		{l{{w(listOf(0, 2, 2)), 0x00ff}}, "y[ff,0]", "y[ff,0]"},
		{l{{w(listOf(0, 3, 2)), 0xffff0001}}, "t[1,ffff]", "t[1,ffff]"},
		{l{{w(listOf(0, 4, 3)), 0x200000001, 3}}, "f[1,2,3]", "f[1,2,3]"},
		{l{{w(listOf(0, 5, 2)), 0x200000001, 3}}, "e[200000001,3]", "e[200000001,3]"},
		{l{{w(listOf(0, 6, 3)), w(structOf(2, 1, 0)), 0, 0, 0}}, "p[{0},_,_]", "p[{},_,_]"},
		{l{{w(listOf(0, 7, 4)), w(structOf(2, 1, 1)), 1, 0, 0, w(listOf(0, 2, 1)), 9}}, "c[{1|_},{0|y[9]}]", "c[{1},{|y[9]}]"},
		{l{{w(listOf(0, 7, 0)), w(structOf(0, 1, 1))}}, "c[]", "c[]"},
		{l{{w(farTo(1, 2, false))}, {7, 0, w(structOf(-3, 2, 0))}}, "{7,0}", "{7}"},
		{l{{w(farTo(1, 0, true))}, {w(farTo(2, 1, false)), w(structOf(0, 1, 1))}, {9, 7, 0}}, "{7|_}", "{7}"},
	} {
		a := arena.Of(c.segments)
		r, err := reader.Root(a)
		if err != api.OK {
			t.Fatalf("%s: %d", c.stands, err)
		}
		x, err := unfold.Value(r)
		if err != api.OK || text.Print(x) != c.stands {
			t.Errorf("Value of %s: %s, %d", c.stands, text.Print(x), err)
		}
		x, err = unfold.Message(a, most)
		if err != api.OK || text.Print(x) != c.normally {
			t.Errorf("Message of %s: %s, %d", c.stands, text.Print(x), err)
		}
	}
}

// 11.1
func TestValueOfParts(t *testing.T) {
	if x, err := unfold.Value(reader.Ref{}); err != api.OK || !sample.Nothing(x) {
		t.Errorf("the zero Ref: %+v, %d", x, err)
	}
	r, err := reader.Root(arena.Of([][]uint64{{w(listOf(0, 2, 2)), 0x0705}}))
	if err != api.OK {
		t.Fatal(err)
	}
	k, _ := r.Kid(1)
	if x, err := unfold.Value(k); err != api.OK || x.Kind != api.Atom || len(x.Words) != 1 || x.Words[0] != 7 || len(x.Kids) != 0 {
		t.Errorf("an atom: %+v, %d", x, err)
	}
}

// 11.1
func TestMessageRefuses(t *testing.T) {
	for _, c := range []struct {
		name  string
		words []uint64
		l     api.Limits
		want  api.Errno
	}{
		{"no words", nil, most, api.ErrBounds},
		{"something else", []uint64{3}, most, api.ErrCap},
		{"a kid's tag", []uint64{w(structOf(0, 0, 1)), w(listOf(0, 7, 0)), 1}, most, api.ErrPtr},
		{"too deep", []uint64{w(structOf(0, 0, 1)), w(structOf(-1, 0, 0))}, api.Limits{Depth: 1, Weight: 9}, api.ErrLimit},
		{"what is trimmed weighs, too", []uint64{w(structOf(0, 2, 0)), 1, 0}, api.Limits{Depth: 1, Weight: 2}, api.ErrLimit},
		{"a pointer to itself", []uint64{w(structOf(-1, 0, 1))}, most, api.ErrLimit},
	} {
		if x, err := unfold.Message(arena.Of([][]uint64{c.words}), c.l); err != c.want || !sample.Nothing(x) {
			t.Errorf("%s: %+v, %d", c.name, x, err)
		}
	}
	if x, err := unfold.Message(nil, most); err != api.ErrBounds || !sample.Nothing(x) {
		t.Errorf("a nil arena: %+v, %d", x, err)
	}
}

// 11.1: what is just within the greatest limits is made.
func TestTheGreatest(t *testing.T) {
	deep := make([]uint64, 65)
	for i := range 64 {
		deep[i] = w(structOf(0, 0, 1))
	}
	for name, words := range map[string][]uint64{
		"deep":          deep,
		"nothings":      {w(listOf(0, 0, 65535))},
		"pointers":      append([]uint64{w(listOf(0, 6, 65535))}, make([]uint64, 65535)...),
		"structs":       {w(listOf(0, 7, 0)), w(structOf(65535, 0, 0))},
		"structs' kids": append([]uint64{w(listOf(0, 7, 65534)), w(structOf(32767, 0, 1))}, make([]uint64, 65534)...),
	} {
		a := arena.Of([][]uint64{words})
		r, err := reader.Root(a)
		if err != api.OK {
			t.Fatal(err)
		}
		if _, err := unfold.Value(r); err != api.OK {
			t.Errorf("Value of %s: %d", name, err)
		}
		if _, err := unfold.Message(a, most); err != api.OK {
			t.Errorf("Message of %s: %d", name, err)
		}
	}
}
