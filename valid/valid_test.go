package valid_test

import (
	"math"
	"testing"

	"cento/api"
	"cento/arena"
	"cento/sample"
	"cento/valid"
)

// Short forms of what the tests are written with.
var w, structOf, listOf = sample.Pointer, sample.ToStruct, sample.ToList

var most = api.Limits{Depth: api.MaxDepth, Weight: api.MaxWeight}

func check(l api.Limits, words ...uint64) (int, api.Errno) {
	return valid.Check(arena.Of([][]uint64{words}), l)
}

// 10.1
func TestLimits(t *testing.T) {
	for _, c := range [][2]api.Limits{
		{{}, {}},
		{{Depth: 64, Weight: 65536, MaxD: 4096, MaxOut: 131072}, {Depth: 64, Weight: 65536, MaxD: 4096, MaxOut: 131072}},
		{{Depth: 65, Weight: 65537, MaxD: 4097, MaxOut: 131073}, {Depth: 64, Weight: 65536, MaxD: 4096, MaxOut: 131072}},
		{{Depth: -1, Weight: -1, MaxD: -1, MaxOut: -1}, {}},
		{{Depth: math.MaxInt, Weight: math.MinInt, MaxD: math.MaxInt, MaxOut: math.MinInt}, {Depth: 64, MaxD: 4096}},
		{{Depth: 3, Weight: 4, MaxD: 5, MaxOut: 6}, {Depth: 3, Weight: 4, MaxD: 5, MaxOut: 6}},
	} {
		if got := valid.Limits(c[0]); got != c[1] {
			t.Errorf("Limits(%+v): %+v", c[0], got)
		}
	}
}

// 10.1: what each message weighs, how deep it is; one less of either is refused.
func TestCheck(t *testing.T) {
	for _, c := range []struct {
		name          string
		words         []uint64
		depth, weight int
	}{
		{"nothing", []uint64{0}, 0, 0},
		{"example", []uint64{w(structOf(0, 1, 0)), 7}, 1, 2},
		{"nothing is trimmed", []uint64{w(structOf(0, 2, 1)), 0, 0, 0}, 1, 4},
		{"a struct of nothing", []uint64{0xfffffffc}, 1, 1},
		{"a struct in a struct", []uint64{w(structOf(0, 0, 2)), 0, w(structOf(0, 2, 0)), 1, 2}, 2, 6},
		{"bytes", []uint64{w(listOf(0, 2, 9)), 1, 2}, 1, 10},
		{"no bytes", []uint64{w(listOf(0, 2, 0))}, 1, 1},
		{"nothings", []uint64{w(listOf(0, 0, 65535))}, 1, 65536},
		{"pointers", []uint64{w(listOf(0, 6, 2)), 0, w(structOf(-1, 0, 0))}, 2, 4},
		{"no pointers", []uint64{w(listOf(0, 6, 0))}, 1, 1},
		{"no structs", []uint64{w(listOf(0, 7, 0)), 0}, 1, 1},
		{"no structs with words", []uint64{w(listOf(0, 7, 0)), w(structOf(0, 9, 9))}, 1, 1},
		{"structs of nothing", []uint64{w(listOf(0, 7, 0)), w(structOf(3, 0, 0))}, 2, 4},
		{"structs", []uint64{w(listOf(0, 7, 4)), w(structOf(2, 1, 1)), 1, 0, 2, w(listOf(0, 6, 1)), 0}, 3, 1 + 2*3 + 2},
		{"a value that two point to", []uint64{w(structOf(0, 0, 2)), w(structOf(1, 1, 0)), w(structOf(0, 1, 0)), 5}, 2, 3 + 2 + 2},
	} {
		l := api.Limits{Depth: c.depth, Weight: c.weight}
		if got, err := check(l, c.words...); got != c.weight || err != api.OK {
			t.Errorf("%s: %d, %d", c.name, got, err)
		}
		if got, err := check(most, c.words...); got != c.weight || err != api.OK {
			t.Errorf("%s, with the greatest limits: %d, %d", c.name, got, err)
		}
		if got, err := check(api.Limits{Depth: 1000, Weight: math.MaxInt}, c.words...); got != c.weight || err != api.OK {
			t.Errorf("%s, with limits beyond: %d, %d", c.name, got, err)
		}
		if c.weight > 0 {
			if got, err := check(api.Limits{Depth: c.depth, Weight: c.weight - 1}, c.words...); got != 0 || err != api.ErrLimit {
				t.Errorf("%s, too heavy: %d, %d", c.name, got, err)
			}
			if got, err := check(api.Limits{Depth: c.depth - 1, Weight: c.weight}, c.words...); got != 0 || err != api.ErrLimit {
				t.Errorf("%s, too deep: %d, %d", c.name, got, err)
			}
		}
	}
}

// 10.1
func TestErrorsInOrder(t *testing.T) {
	heavy := w(listOf(0, 0, 100))
	for _, c := range []struct {
		name  string
		l     api.Limits
		words []uint64
		want  api.Errno
	}{
		{"no words", most, nil, api.ErrBounds},
		{"the root's pointer ahead of limits", api.Limits{}, []uint64{3}, api.ErrCap},
		{"a kid's pointer", most, []uint64{w(structOf(0, 0, 1)), 3}, api.ErrCap},
		{"a kid behind the end", most, []uint64{w(structOf(0, 0, 1)), w(structOf(0, 1, 0))}, api.ErrBounds},
		{"a kid's tag", most, []uint64{w(structOf(0, 0, 1)), w(listOf(0, 7, 0)), 1}, api.ErrPtr},
		{"the struct is too heavy ahead of its kid", api.Limits{Depth: 9, Weight: 1}, []uint64{w(structOf(0, 0, 1)), 3}, api.ErrLimit},
		{"the struct is too deep ahead of its kid", api.Limits{Depth: 0, Weight: 9}, []uint64{w(structOf(0, 0, 1)), 3}, api.ErrLimit},
		{"the first kid's error ahead of the second one's", api.Limits{Depth: 9, Weight: 50}, []uint64{w(structOf(0, 0, 2)), heavy, 3}, api.ErrLimit},
		{"the second kid's error", api.Limits{Depth: 9, Weight: 200}, []uint64{w(structOf(0, 0, 2)), heavy, 3}, api.ErrCap},
		{"what is in the first kid ahead of the second one", most, []uint64{w(structOf(0, 0, 2)), w(listOf(1, 6, 1)), 3, w(structOf(5, 9, 9))}, api.ErrBounds},
		{"atoms are weighed ahead of what follows", api.Limits{Depth: 9, Weight: 103}, []uint64{w(listOf(0, 6, 2)), heavy, 3}, api.ErrLimit},
		{"structs of a list are weighed ahead of their kids", api.Limits{Depth: 9, Weight: 4}, []uint64{w(listOf(0, 7, 2)), w(structOf(2, 0, 1)), 3, 3}, api.ErrLimit},
		{"structs of a list are too deep ahead of their kids", api.Limits{Depth: 1, Weight: 9}, []uint64{w(listOf(0, 7, 2)), w(structOf(2, 0, 1)), 3, 3}, api.ErrLimit},
		{"kids of structs of a list", api.Limits{Depth: 2, Weight: 5}, []uint64{w(listOf(0, 7, 2)), w(structOf(2, 0, 1)), 0, 3}, api.ErrCap},
	} {
		if n, err := check(c.l, c.words...); n != 0 || err != c.want {
			t.Errorf("%s: %d, %d, not %d", c.name, n, err, c.want)
		}
	}
	if n, err := valid.Check(nil, most); n != 0 || err != api.ErrBounds {
		t.Errorf("a nil arena: %d, %d", n, err)
	}
}

// 10.2
func TestItEnds(t *testing.T) {
	for name, words := range map[string][]uint64{
		"a pointer to itself":                    {w(structOf(-1, 0, 1))},
		"a list of itself":                       {w(listOf(-1, 6, 1))},
		"two that go round, each twice":          {w(structOf(0, 0, 2)), w(structOf(1, 0, 2)), w(structOf(0, 0, 2)), w(structOf(-3, 0, 2)), w(structOf(-4, 0, 2))},
		"nothings":                               {w(listOf(0, 0, 1<<29-1))},
		"structs of nothing":                     {w(listOf(0, 7, 0)), w(structOf(1<<29-1, 0, 0))},
		"a list whose structs point to the list": {w(listOf(0, 7, 3)), w(structOf(3, 0, 1)), w(listOf(-2, 7, 3)), w(listOf(-3, 7, 3)), w(listOf(-4, 7, 3))},
	} {
		if n, err := check(most, words...); n != 0 || err != api.ErrLimit {
			t.Errorf("%s: %d, %d", name, n, err)
		}
	}
}

// 10.1: 64 within one another are taken, 65 are not.
func TestTheGreatestDepth(t *testing.T) {
	for n, want := range map[int]api.Errno{64: api.OK, 65: api.ErrLimit} {
		words := make([]uint64, n+1)
		for i := range n {
			words[i] = w(structOf(0, 0, 1))
		}
		if _, err := check(most, words...); err != want {
			t.Errorf("%d deep: %d", n, err)
		}
	}
}
