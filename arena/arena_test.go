package arena_test

import (
	"math"
	"slices"
	"testing"

	"cento/api"
	"cento/arena"
)

func equal(a, b [][]uint64) bool {
	return slices.EqualFunc(a, b, func(x, y []uint64) bool { return slices.Equal(x, y) })
}

// give asks for words, and holds the answer against what is wanted.
func give(t *testing.T, a *arena.Arena, n, segment, at int, ok bool) {
	t.Helper()
	if s, i, got := a.Give(n); s != segment || i != at || got != ok {
		t.Errorf("Give(%d): %d, %d, %v, not %d, %d, %v", n, s, i, got, segment, at, ok)
	}
}

func in(t *testing.T, a *arena.Arena, segment, n, at int, ok bool) {
	t.Helper()
	if i, got := a.In(segment, n); i != at || got != ok {
		t.Errorf("In(%d, %d): %d, %v, not %d, %v", segment, n, i, got, at, ok)
	}
}

// 5.1
func TestOf(t *testing.T) {
	l := [][]uint64{{1, 2, 3}, {}, {4}}
	a := arena.Of(l)
	if a.Len() != 3 || a.Size(0) != 3 || a.Size(1) != 0 || a.Size(2) != 1 || a.Size(3) != 0 || a.Size(-1) != 0 {
		t.Error("sizes")
	}
	if w, ok := a.Get(0, 2); w != 3 || !ok {
		t.Errorf("Get: %d, %v", w, ok)
	}
	for _, at := range [][2]int{{0, 3}, {0, -1}, {1, 0}, {3, 0}, {-1, 0}, {0, math.MaxInt}, {math.MinInt, 0}} {
		if w, ok := a.Get(at[0], at[1]); w != 0 || ok {
			t.Errorf("Get(%v): %d, %v", at, w, ok)
		}
		if a.Put(at[0], at[1], 9) {
			t.Errorf("Put(%v)", at)
		}
	}
	if !a.Put(2, 0, 7) {
		t.Error("Put is refused")
	}
	if !equal(a.Segments(), [][]uint64{{1, 2, 3}, {}, {7}}) {
		t.Errorf("Segments: %v", a.Segments())
	}
	if a.Left() != 0 {
		t.Errorf("Left: %d", a.Left())
	}
	give(t, a, 1, 0, 0, false)
	in(t, a, 1, 1, 0, false)
}

// 5.1
func TestHasAndPart(t *testing.T) {
	a := arena.Of([][]uint64{{1, 2, 3}, {4}})
	for _, c := range []struct {
		segment, at, n int
		want           []uint64
		ok             bool
	}{
		{0, 0, 3, []uint64{1, 2, 3}, true}, {0, 1, 2, []uint64{2, 3}, true}, {0, 0, 0, nil, true}, {0, 3, 0, nil, true}, {1, 0, 1, []uint64{4}, true},
		{0, 0, 4, nil, false}, {0, 2, 2, nil, false}, {0, -1, 1, nil, false}, {0, 1, -1, nil, false}, {2, 0, 0, nil, false}, {-1, 0, 0, nil, false},
		{0, math.MaxInt, 1, nil, false}, {0, 1, math.MaxInt, nil, false}, {0, math.MaxInt, math.MaxInt, nil, false}, {0, math.MinInt, 1, nil, false}, {0, 1, math.MinInt, nil, false},
	} {
		if a.Has(c.segment, c.at, c.n) != c.ok {
			t.Errorf("Has(%d, %d, %d): %v", c.segment, c.at, c.n, !c.ok)
		}
		if l, ok := a.Part(c.segment, c.at, c.n); !slices.Equal(l, c.want) || ok != c.ok {
			t.Errorf("Part(%d, %d, %d): %v, %v", c.segment, c.at, c.n, l, ok)
		}
	}
}

// 5.2
func TestGive(t *testing.T) {
	a := arena.New(4, 9)
	if a.Len() != 0 || a.Left() != 9 {
		t.Errorf("New: %d segments, %d left", a.Len(), a.Left())
	}
	in(t, a, 0, 0, 0, false)
	give(t, a, 3, 0, 0, true)
	give(t, a, 2, 1, 0, true)
	give(t, a, 5, 0, 0, false)
	give(t, a, -1, 0, 0, false)
	if a.Left() != 4 || !equal(a.Segments(), [][]uint64{{0, 0, 0}, {0, 0}}) {
		t.Errorf("%d left, %v", a.Left(), a.Segments())
	}
	give(t, a, 2, 1, 2, true)
	in(t, a, 0, 2, 0, false)
	in(t, a, 0, -1, 0, false)
	in(t, a, 2, 1, 0, false)
	in(t, a, -1, 1, 0, false)
	in(t, a, 0, 0, 3, true)
	in(t, a, 0, 1, 3, true)
	in(t, a, 0, 1, 0, false)
	in(t, a, 1, 0, 4, true)
	give(t, a, 1, 2, 0, true)
	give(t, a, 0, 2, 1, true)
	give(t, a, 1, 0, 0, false)
	in(t, a, 2, 1, 0, false)
	if a.Left() != 0 {
		t.Errorf("%d left", a.Left())
	}
}

// 5.2
func TestAllThatIsLeftIsGiven(t *testing.T) {
	a := arena.New(9, 5)
	give(t, a, 2, 0, 0, true)
	in(t, a, 0, 4, 0, false)
	in(t, a, 0, 3, 2, true)
	in(t, a, 0, 0, 5, true)
	in(t, a, 0, 1, 0, false)
	b := arena.New(9, 5)
	give(t, b, 6, 0, 0, false)
	give(t, b, 5, 0, 0, true)
	give(t, b, 0, 0, 5, true)
}

// 5.2
func TestAGreatGiveHasASegmentOfItsOwn(t *testing.T) {
	a := arena.New(2, 100)
	give(t, a, 7, 0, 0, true)
	in(t, a, 0, 0, 0, false)
	give(t, a, 1, 1, 0, true)
	give(t, a, 2, 2, 0, true)
	in(t, a, 1, 1, 1, true)
}

// 5.1
func TestNewTakesWhatMayBe(t *testing.T) {
	a := arena.New(0, 3)
	give(t, a, 1, 0, 0, true)
	give(t, a, 1, 1, 0, true)
	if n := arena.New(-5, -1).Left(); n != 0 {
		t.Errorf("most of less than none: %d", n)
	}
	if n := arena.New(1, math.MaxInt).Left(); n != api.MaxOut {
		t.Errorf("most of too many: %d", n)
	}
	if n := arena.New(1, api.MaxOut-1).Left(); n != api.MaxOut-1 {
		t.Errorf("most of what may be: %d", n)
	}
	b := arena.New(math.MaxInt, 50)
	give(t, b, 20, 0, 0, true)
	give(t, b, 30, 0, 20, true)
}

// 5.2, 5.3
func TestNoMoreThanSixteenSegments(t *testing.T) {
	a := arena.New(1, 100)
	for i := range 16 {
		give(t, a, 1, i, 0, true)
		a.Put(i, 0, uint64(i)+1)
	}
	give(t, a, 1, 15, 1, true)
	give(t, a, 5, 15, 2, true)
	if a.Len() != 16 || a.Size(15) != 7 {
		t.Errorf("%d segments", a.Len())
	}
	for i := range 16 {
		if w, _ := a.Get(i, 0); w != uint64(i)+1 {
			t.Errorf("segment %d has %d", i, w)
		}
	}
}

// 5.3
func TestNoWordIsGivenTwice(t *testing.T) {
	a := arena.New(5, 300)
	type place struct{ segment, at int }
	given := map[place]int{}
	step := uint64(7)
	for a.Left() > 10 {
		step = step*6364136223846793005 + 1442695040888963407
		n := int(step >> 60 % 7)
		var s, at int
		ok := false
		if step>>40&1 == 1 {
			s = int(step >> 50 % 4)
			at, ok = a.In(s, n)
		} else {
			s, at, ok = a.Give(n)
		}
		for i := at; ok && i < at+n; i++ {
			p := place{s, i}
			if given[p] != 0 {
				t.Fatalf("%v is given twice", p)
			}
			if w, there := a.Get(s, i); w != 0 || !there {
				t.Fatalf("%v is given with %d", p, w)
			}
			given[p] = len(given) + 1
			a.Put(s, i, uint64(given[p]))
		}
	}
	for p, want := range given {
		if w, _ := a.Get(p.segment, p.at); w != uint64(want) {
			t.Errorf("%v has %d, not %d", p, w, want)
		}
	}
}

// 5.1, R1
func TestNil(t *testing.T) {
	var a *arena.Arena
	if a.Len() != 0 || a.Size(0) != 0 || a.Left() != 0 || a.Has(0, 0, 0) || a.Put(0, 0, 1) || len(a.Segments()) != 0 {
		t.Error("a nil one has something")
	}
	if w, ok := a.Get(0, 0); w != 0 || ok {
		t.Error("Get")
	}
	if l, ok := a.Part(0, 0, 0); len(l) != 0 || ok {
		t.Error("Part")
	}
	in(t, a, 0, 0, 0, false)
	give(t, a, 0, 0, 0, false)
}

// R4
func TestNothingIsShared(t *testing.T) {
	l := [][]uint64{{1, 2}}
	a := arena.Of(l)
	l[0][0] = 9
	a.Put(0, 1, 8)
	a.Segments()[0][0] = 7
	part, _ := a.Part(0, 0, 2)
	part[0] = 6
	if w, _ := a.Get(0, 0); w != 1 || l[0][1] != 2 {
		t.Error("an arena shares memory")
	}
}
