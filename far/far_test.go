package far_test

import (
	"math"
	"testing"

	"cento/api"
	"cento/arena"
	"cento/far"
	"cento/sample"
)

// Short forms of what the tests are written with.
var w, structOf, listOf, farTo = sample.Pointer, sample.ToStruct, sample.ToList, sample.ToFar

const other = 3

// 6.1
func TestFollow(t *testing.T) {
	type l = [][]uint64
	for _, c := range []struct {
		name     string
		segments [][]uint64
		at       int
		want     far.Loc
		err      api.Errno
	}{
		{"example", l{{w(structOf(0, 1, 0)), 7}}, 0, far.Loc{P: structOf(0, 1, 0), At: 1}, api.OK},
		{"nothing", l{{0}}, 0, far.Loc{}, api.OK},
		{"a list", l{{0, w(listOf(1, 2, 9)), 0, 1, 2}}, 1, far.Loc{P: listOf(0, 2, 9), At: 3}, api.OK},
		{"a list of structs with its tag", l{{w(listOf(0, 7, 1)), 0, 0}}, 0, far.Loc{P: listOf(0, 7, 1), At: 1}, api.OK},
		{"an offset below 0", l{{5, 6, w(structOf(-3, 1, 1))}}, 2, far.Loc{P: structOf(0, 1, 1)}, api.OK},
		{"a struct of nothing", l{{w(structOf(-1, 0, 0))}}, 0, far.Loc{P: structOf(0, 0, 0)}, api.OK},
		{"no words at the end", l{{w(listOf(0, 0, 5))}}, 0, far.Loc{P: listOf(0, 0, 5), At: 1}, api.OK},
		{"a pad", l{{w(farTo(1, 1, false))}, {0, w(structOf(0, 1, 0)), 7}}, 0, far.Loc{P: structOf(0, 1, 0), Segment: 1, At: 2}, api.OK},
		{"a pad in the same segment", l{{w(farTo(0, 1, false)), w(listOf(0, 5, 1)), 7}}, 0, far.Loc{P: listOf(0, 5, 1), At: 2}, api.OK},
		{"a double pad", l{{w(farTo(2, 1, true))}, {8, 9, 9}, {8, w(farTo(1, 1, false)), w(structOf(0, 1, 1))}}, 0, far.Loc{P: structOf(0, 1, 1), Segment: 1, At: 1}, api.OK},

		{"behind the end", l{{0}}, 1, far.Loc{}, api.ErrBounds},
		{"ahead of the beginning", l{{0}}, -1, far.Loc{}, api.ErrBounds},
		{"something else", l{{other}}, 0, far.Loc{}, api.ErrCap},
		{"a struct behind the end", l{{w(structOf(0, 1, 1)), 7}}, 0, far.Loc{}, api.ErrBounds},
		{"a struct ahead of the beginning", l{{w(structOf(-2, 1, 0)), 7}}, 0, far.Loc{}, api.ErrBounds},
		{"a list behind the end", l{{w(listOf(0, 2, 9)), 7}}, 0, far.Loc{}, api.ErrBounds},
		{"a tag behind the end", l{{w(listOf(0, 7, 0))}}, 0, far.Loc{}, api.ErrBounds},
		{"no such segment", l{{w(farTo(1, 0, false))}}, 0, far.Loc{}, api.ErrBounds},
		{"a pad behind the end", l{{w(farTo(0, 1, false))}}, 0, far.Loc{}, api.ErrBounds},
		{"a pad is nothing", l{{w(farTo(0, 1, false)), 0}}, 0, far.Loc{}, api.ErrPtr},
		{"a pad is a far one", l{{w(farTo(0, 1, false)), w(farTo(0, 1, false))}}, 0, far.Loc{}, api.ErrPtr},
		{"a pad is a double one", l{{w(farTo(0, 1, false)), w(farTo(0, 0, true))}}, 0, far.Loc{}, api.ErrPtr},
		{"a pad is something else", l{{w(farTo(0, 1, false)), other}}, 0, far.Loc{}, api.ErrCap},
		{"a pad points behind the end", l{{w(farTo(0, 1, false)), w(structOf(0, 1, 0))}}, 0, far.Loc{}, api.ErrBounds},
		{"half of a double pad", l{{w(farTo(0, 1, true)), w(farTo(0, 0, false))}}, 0, far.Loc{}, api.ErrBounds},
		{"the half of a double pad that is there is not read", l{{w(farTo(0, 1, true)), other}}, 0, far.Loc{}, api.ErrBounds},
		{"a double pad begins with a struct", l{{w(farTo(0, 1, true)), w(structOf(0, 1, 0)), w(structOf(0, 1, 0))}}, 0, far.Loc{}, api.ErrPtr},
		{"a double pad begins with a double one", l{{w(farTo(0, 1, true)), w(farTo(0, 0, true)), w(structOf(0, 1, 0))}}, 0, far.Loc{}, api.ErrPtr},
		{"a double pad begins with something else, which is no pointer or shape", l{{w(farTo(0, 1, true)), other, w(structOf(0, 1, 0))}}, 0, far.Loc{}, api.ErrPtr},
		{"the first word of a double pad ahead of its shape", l{{w(farTo(0, 1, true)), 0, other}}, 0, far.Loc{}, api.ErrPtr},
		{"a shape is something else", l{{w(farTo(0, 1, true)), w(farTo(0, 0, false)), other}}, 0, far.Loc{}, api.ErrCap},
		{"a shape is nothing", l{{w(farTo(0, 1, true)), w(farTo(0, 0, false)), 0}}, 0, far.Loc{}, api.ErrPtr},
		{"a shape is a far one", l{{w(farTo(0, 1, true)), w(farTo(0, 0, false)), w(farTo(0, 0, false))}}, 0, far.Loc{}, api.ErrPtr},
		{"a shape has an offset", l{{w(farTo(0, 1, true)), w(farTo(0, 0, false)), w(structOf(1, 1, 0))}}, 0, far.Loc{}, api.ErrPtr},
		{"a shape's offset ahead of its bounds", l{{w(farTo(0, 1, true)), w(farTo(9, 9, false)), w(listOf(-1, 2, 1))}}, 0, far.Loc{}, api.ErrPtr},
		{"what a double pad points to is not there", l{{w(farTo(0, 1, true)), w(farTo(0, 3, false)), w(structOf(0, 1, 0))}}, 0, far.Loc{}, api.ErrBounds},
		{"what a double pad points to is in no segment", l{{w(farTo(0, 1, true)), w(farTo(1, 0, false)), w(structOf(0, 1, 0))}}, 0, far.Loc{}, api.ErrBounds},
	} {
		if got, err := far.Follow(arena.Of(c.segments), 0, c.at); got != c.want || err != c.err {
			t.Errorf("%s: %+v, %d", c.name, got, err)
		}
	}
}

// 6.1, R1
func TestFollowOutOfBounds(t *testing.T) {
	a := arena.Of([][]uint64{{0}})
	for _, at := range [][2]int{{1, 0}, {-1, 0}, {0, math.MaxInt}, {math.MaxInt, 0}, {math.MinInt, math.MinInt}} {
		if got, err := far.Follow(a, at[0], at[1]); got != (far.Loc{}) || err != api.ErrBounds {
			t.Errorf("%v: %+v, %d", at, got, err)
		}
	}
	if got, err := far.Follow(nil, 0, 0); got != (far.Loc{}) || err != api.ErrBounds {
		t.Errorf("a nil arena: %+v, %d", got, err)
	}
}

// 6.2
func TestWhatIsToldLiesWithin(t *testing.T) {
	x := uint64(3)
	for range 20000 {
		var l [][]uint64
		for range 3 {
			s := make([]uint64, 4)
			for i := range s {
				x = x*6364136223846793005 + 1442695040888963407
				// Small fields, so that many point to something.
				s[i] = x >> 7 & 0x0000001700000017
				if x>>60&1 == 1 {
					s[i] = x >> 9 & 0x000100010000000c
				}
			}
			l = append(l, s)
		}
		a := arena.Of(l)
		for at := range 4 {
			got, err := far.Follow(a, 0, at)
			if err != api.OK {
				if got != (far.Loc{}) {
					t.Fatalf("%x: %+v beside an error", l, got)
				}
				continue
			}
			if got == (far.Loc{}) {
				continue
			}
			n, ok := got.P.Words()
			if !ok || got.P.Off != 0 || !a.Has(got.Segment, got.At, n) {
				t.Fatalf("%x: %+v", l, got)
			}
		}
	}
}
