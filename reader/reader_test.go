package reader_test

import (
	"math"
	"testing"

	"cento/api"
	"cento/arena"
	"cento/ptr"
	"cento/reader"
	"cento/sample"
)

// Short forms of what the tests are written with.
var w, structOf, listOf = sample.Pointer, sample.ToStruct, sample.ToList

func root(t *testing.T, segments ...[]uint64) reader.Ref {
	t.Helper()
	r, err := reader.Root(arena.Of(segments))
	if err != api.OK {
		t.Fatalf("Root of %x: %d", segments, err)
	}
	return r
}

// shape holds what a value says of itself against what is wanted.
func shape(t *testing.T, r reader.Ref, kind, words, kids, frameWords, frameKids int) {
	t.Helper()
	fw, fk := r.Frame()
	if r.Kind() != kind || r.Words() != words || r.Kids() != kids || fw != frameWords || fk != frameKids {
		t.Errorf("kind %d, %d words, %d kids, frame %d %d; not kind %d, %d words, %d kids, frame %d %d", r.Kind(), r.Words(), r.Kids(), fw, fk, kind, words, kids, frameWords, frameKids)
	}
}

func kid(t *testing.T, r reader.Ref, i int) reader.Ref {
	t.Helper()
	k, err := r.Kid(i)
	if err != api.OK {
		t.Fatalf("Kid(%d): %d", i, err)
	}
	return k
}

// 9.1, 9.2
func TestStruct(t *testing.T) {
	r := root(t, []uint64{w(structOf(0, 2, 2)), 7, 8, 0, w(listOf(0, 2, 3)), 0x030201})
	shape(t, r, api.Struct, 2, 2, 0, 0)
	for i, want := range map[int]uint64{0: 7, 1: 8, 2: 0, -1: 0, math.MaxInt: 0, math.MinInt: 0} {
		if n := r.Word(i); n != want {
			t.Errorf("Word(%d): %d", i, n)
		}
	}
	shape(t, kid(t, r, 0), api.Null, 0, 0, 0, 0)
	shape(t, kid(t, r, 1), api.Byte, 0, 3, 0, 0)
	for _, i := range []int{2, -1, math.MaxInt, math.MinInt} {
		shape(t, kid(t, r, i), api.Null, 0, 0, 0, 0)
	}
	shape(t, root(t, []uint64{0xfffffffc}), api.Struct, 0, 0, 0, 0)
}

// 9.1, 9.2
func TestNothing(t *testing.T) {
	for _, r := range []reader.Ref{{}, root(t, []uint64{0}), root(t, []uint64{0, 5})} {
		shape(t, r, api.Null, 0, 0, 0, 0)
		if r.Word(0) != 0 {
			t.Error("nothing has a word")
		}
		shape(t, kid(t, r, 0), api.Null, 0, 0, 0, 0)
	}
}

// 9.1, 9.2
func TestListsOfData(t *testing.T) {
	data := []uint64{0x8877665544332211, 0xffeeddccbbaa9988}
	for _, c := range []struct {
		code, count int
		want        map[int]uint64
	}{
		{0, 3, map[int]uint64{0: 0, 1: 0, 2: 0}},
		{1, 128, map[int]uint64{0: 1, 1: 0, 4: 1, 63: 1, 64: 0, 127: 1}},
		{2, 16, map[int]uint64{0: 0x11, 7: 0x88, 8: 0x88, 15: 0xff}},
		{3, 8, map[int]uint64{0: 0x2211, 3: 0x8877, 4: 0x9988, 7: 0xffee}},
		{4, 4, map[int]uint64{0: 0x44332211, 1: 0x88776655, 3: 0xffeeddcc}},
		{5, 2, map[int]uint64{0: data[0], 1: data[1]}},
	} {
		r := root(t, []uint64{w(listOf(0, c.code, c.count)), data[0], data[1]})
		shape(t, r, c.code+2, 0, c.count, 0, 0)
		for i, want := range c.want {
			k := kid(t, r, i)
			shape(t, k, api.Atom, 1, 0, 0, 0)
			if k.Word(0) != want || k.Word(1) != 0 || k.Word(-1) != 0 {
				t.Errorf("code %d, number %d: %x", c.code, i, k.Word(0))
			}
			shape(t, kid(t, k, 0), api.Null, 0, 0, 0, 0)
		}
		shape(t, kid(t, r, c.count), api.Null, 0, 0, 0, 0)
		shape(t, kid(t, r, -1), api.Null, 0, 0, 0, 0)
		if r.Word(0) != 0 {
			t.Errorf("a list has a word")
		}
	}
	r := root(t, []uint64{w(listOf(0, 0, 1<<29-1))})
	shape(t, r, api.Void, 0, 1<<29-1, 0, 0)
	shape(t, kid(t, r, 1<<29-2), api.Atom, 1, 0, 0, 0)
}

// 9.1, 9.2
func TestPointers(t *testing.T) {
	r := root(t, []uint64{w(listOf(0, 6, 3)), w(structOf(2, 1, 0)), 0, 3, 9})
	shape(t, r, api.Pointers, 0, 3, 0, 0)
	if k := kid(t, r, 0); k.Word(0) != 9 {
		t.Errorf("the first kid: %d", k.Word(0))
	}
	shape(t, kid(t, r, 1), api.Null, 0, 0, 0, 0)
	if k, err := r.Kid(2); k.Kind() != api.Null || err != api.ErrCap {
		t.Errorf("a kid with an error: %v, %d", k, err)
	}
}

// 9.1, 9.2
func TestComposite(t *testing.T) {
	r := root(t, []uint64{w(listOf(0, 7, 5)), w(structOf(2, 1, 1)), 7, w(structOf(-1, 0, 0)), 8, 0, 99})
	shape(t, r, api.Composite, 0, 2, 1, 1)
	for i, want := range []uint64{7, 8} {
		k := kid(t, r, i)
		shape(t, k, api.Struct, 1, 1, 0, 0)
		if k.Word(0) != want || k.Word(1) != 0 {
			t.Errorf("struct %d: %d", i, k.Word(0))
		}
	}
	shape(t, kid(t, kid(t, r, 0), 0), api.Struct, 0, 0, 0, 0)
	shape(t, kid(t, kid(t, r, 1), 0), api.Null, 0, 0, 0, 0)
	shape(t, kid(t, r, 2), api.Null, 0, 0, 0, 0)
	shape(t, root(t, []uint64{w(listOf(0, 7, 0)), 0}), api.Composite, 0, 0, 0, 0)
	shape(t, root(t, []uint64{w(listOf(0, 7, 1)), w(structOf(0, 3, 4)), 5}), api.Composite, 0, 0, 3, 4)
	shape(t, root(t, []uint64{w(listOf(0, 7, 0)), w(structOf(1<<29-1, 0, 0))}), api.Composite, 0, 1<<29-1, 0, 0)
}

// 9.1
func TestTagsThatMayNotBe(t *testing.T) {
	for name, tag := range map[string]uint64{
		"a list":            w(listOf(0, 2, 0)),
		"a far one":         w(ptr.Ptr{Kind: ptr.Far}),
		"something else":    3,
		"below 0":           w(structOf(-1, 0, 0)),
		"below 0, of words": w(structOf(-1, 1, 0)),
		"one word too many": w(structOf(1, 2, 1)),
		"too many":          w(structOf(3, 1, 0)),
		"far too many":      w(structOf(1<<29-1, 65535, 65535)),
	} {
		if r, err := reader.Root(arena.Of([][]uint64{{w(listOf(0, 7, 2)), tag, 0, 0}})); r.Kind() != api.Null || err != api.ErrPtr {
			t.Errorf("%s: %v, %d", name, r, err)
		}
	}
}

// 9.1
func TestErrorsAndFarOnes(t *testing.T) {
	if r, err := reader.Root(nil); r.Kind() != api.Null || err != api.ErrBounds {
		t.Errorf("a nil arena: %v, %d", r, err)
	}
	a := arena.Of([][]uint64{{w(structOf(0, 1, 0))}, {5, w(ptr.Ptr{Kind: ptr.Far, Segment: 2}), 0}, {w(structOf(0, 1, 0)), 6}})
	if r, err := reader.Root(a); r.Kind() != api.Null || err != api.ErrBounds {
		t.Errorf("behind the end: %v, %d", r, err)
	}
	r, err := reader.At(a, 1, 1)
	if err != api.OK || r.Kind() != api.Struct || r.Word(0) != 6 {
		t.Errorf("a far one: %v, %d", r, err)
	}
	for _, at := range [][2]int{{3, 0}, {1, 3}, {-1, 0}, {0, -1}, {0, math.MaxInt}} {
		if r, err := reader.At(a, at[0], at[1]); r.Kind() != api.Null || err != api.ErrBounds {
			t.Errorf("At(%v): %v, %d", at, r, err)
		}
	}
	if r, err := reader.At(a, 1, 2); r.Kind() != api.Null || err != api.OK {
		t.Errorf("nothing: %v, %d", r, err)
	}
}
