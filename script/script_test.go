package script_test

import (
	"math"
	"slices"
	"testing"

	"cento/api"
	"cento/sample"
	"cento/script"
)

type steps = []script.Step

func keep(n int) script.Step   { return script.Step{Kind: api.Keep, N: n} }
func del(n int) script.Step    { return script.Step{Kind: api.Delete, N: n} }
func insert(n int) script.Step { return script.Step{Kind: api.Insert, N: n} }

// Steps that may not be.
var wrong = steps{{Kind: 3, N: 1}, {Kind: -1, N: 1}, {Kind: api.Keep}, {Kind: api.Delete, N: -1}, {Kind: api.Insert, N: api.MaxList + 1}, {Kind: api.Keep, N: math.MinInt}, {Kind: api.Keep, N: math.MaxInt}, {Kind: math.MaxInt, N: 1}}

// 17.1
func TestSizesAndCounts(t *testing.T) {
	for _, c := range []struct {
		l             steps
		ahead, behind int
		counts        [3]int
	}{
		{nil, 0, 0, [3]int{}},
		{steps{keep(1), del(2), insert(3)}, 3, 4, [3]int{1, 2, 3}},
		{steps{insert(3), keep(4), insert(5), keep(6), del(7)}, 17, 18, [3]int{10, 7, 8}},
		{steps{keep(api.MaxList), keep(api.MaxList), insert(1)}, 2 * api.MaxList, 2*api.MaxList + 1, [3]int{2 * api.MaxList, 0, 1}},
	} {
		if a, b, ok := script.Sizes(c.l); a != c.ahead || b != c.behind || !ok {
			t.Errorf("Sizes of %v: %d, %d, %v", c.l, a, b, ok)
		}
		if n := script.Counts(c.l); n != c.counts {
			t.Errorf("Counts of %v: %v", c.l, n)
		}
		for _, s := range wrong {
			for _, l := range []steps{append(steps{s}, c.l...), append(slices.Clone(c.l), s)} {
				if a, b, ok := script.Sizes(l); a != 0 || b != 0 || ok {
					t.Errorf("Sizes of %v: %d, %d, %v", l, a, b, ok)
				}
				if n := script.Counts(l); n != c.counts {
					t.Errorf("Counts of %v: %v", l, n)
				}
			}
		}
	}
}

// 17.1
func TestLeads(t *testing.T) {
	for _, c := range []struct {
		l    steps
		a, b []int
		want bool
	}{
		{nil, nil, nil, true},
		{nil, []int{1}, nil, false},
		{nil, nil, []int{1}, false},
		{steps{keep(2)}, []int{1, 2}, []int{1, 2}, true},
		{steps{keep(1), keep(1)}, []int{1, 2}, []int{1, 2}, true},
		{steps{keep(2)}, []int{1, 2}, []int{1, 3}, false},
		{steps{keep(2)}, []int{1, 2}, []int{1, 2, 3}, false},
		{steps{keep(2)}, []int{1, 2, 3}, []int{1, 2}, false},
		{steps{keep(3)}, []int{1, 2}, []int{1, 2}, false},
		{steps{del(1), keep(1), insert(1), keep(1)}, []int{1, 2, 3}, []int{2, 4, 3}, true},
		{steps{insert(1), del(1), keep(1), insert(1), keep(1)}, []int{1, 2, 3}, []int{9, 2, 4, 3}, true},
		{steps{keep(1), del(1), insert(1), keep(1)}, []int{1, 2, 3}, []int{2, 4, 3}, false},
		{steps{del(3), insert(2)}, []int{1, 2, 3}, []int{2, 4}, true},
		{steps{del(3), insert(2)}, []int{1, 2}, []int{2, 4}, false},
		{steps{del(3), insert(2)}, []int{1, 2, 3}, []int{2}, false},
		{steps{del(api.MaxList)}, []int{1}, nil, false},
	} {
		if got := script.Leads(c.l, c.a, c.b); got != c.want {
			t.Errorf("%v leads from %v to %v: %v", c.l, c.a, c.b, got)
		}
		for _, s := range wrong {
			if script.Leads(append(slices.Clone(c.l), s), c.a, c.b) {
				t.Errorf("%v, and %v, leads", c.l, s)
			}
		}
	}
	behind := []int{1, 2}
	if script.Leads(steps{keep(2)}, behind[:1], behind[:1]) {
		t.Error("what lies behind the length counts")
	}
}

// 17.2
func TestNormal(t *testing.T) {
	for _, c := range []struct{ l, normal, back steps }{
		{nil, nil, nil},
		{steps{insert(1), del(1), del(2), keep(1)}, steps{del(3), insert(1), keep(1)}, steps{del(1), insert(3), keep(1)}},
		{steps{keep(1), keep(2), insert(1), insert(2), keep(3)}, steps{keep(3), insert(3), keep(3)}, steps{keep(3), del(3), keep(3)}},
		{steps{insert(1), del(1), insert(2), del(2)}, steps{del(3), insert(3)}, steps{del(3), insert(3)}},
		{steps{keep(1), insert(4), del(5)}, steps{keep(1), del(5), insert(4)}, steps{keep(1), del(4), insert(5)}},
		{steps{del(1), keep(1), insert(1), keep(1), del(1)}, steps{del(1), keep(1), insert(1), keep(1), del(1)}, steps{insert(1), keep(1), del(1), keep(1), insert(1)}},
		{steps{keep(1), {Kind: 3, N: 7}, keep(1), {Kind: api.Insert, N: -1}, keep(1)}, steps{keep(3)}, steps{keep(3)}},
		{wrong, nil, nil},
	} {
		given := slices.Clone(c.l)
		if l := script.Normal(c.l); !slices.Equal(l, c.normal) {
			t.Errorf("Normal of %v: %v", c.l, l)
		}
		if l := script.Back(c.l); !slices.Equal(l, c.back) {
			t.Errorf("Back of %v: %v", c.l, l)
		}
		if !slices.Equal(c.l, given) {
			t.Errorf("%v is changed to %v", given, c.l)
		}
	}
}

// 17.3
func TestManyScripts(t *testing.T) {
	for seed := range 3000 {
		s := sample.From(seed)
		var l steps
		var a, b []int
		for range s.Below(9) {
			step := script.Step{Kind: s.Below(3), N: 1 + s.Below(3)}
			l = append(l, step)
			for range step.N {
				n := s.Below(3)
				if step.Kind != api.Insert {
					a = append(a, n)
				}
				if step.Kind != api.Delete {
					b = append(b, n)
				}
			}
		}
		normal, back := script.Normal(l), script.Back(l)
		if !script.Leads(l, a, b) || !script.Leads(normal, a, b) || !script.Leads(back, b, a) {
			t.Fatalf("%v, %v, %v: one does not lead between %v and %v", l, normal, back, a, b)
		}
		if !slices.Equal(script.Normal(normal), normal) || !slices.Equal(script.Back(back), normal) || !slices.Equal(script.Normal(back), back) {
			t.Fatalf("%v, %v, %v: not again the same", l, normal, back)
		}
		if script.Counts(l) != script.Counts(normal) {
			t.Fatalf("%v, %v: other counts", l, normal)
		}
	}
}
