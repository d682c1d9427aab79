package lcs_test

import (
	"math"
	"slices"
	"testing"

	"cento/api"
	"cento/lcs"
	"cento/sample"
	"cento/script"
)

func keep(n int) script.Step   { return script.Step{Kind: api.Keep, N: n} }
func del(n int) script.Step    { return script.Step{Kind: api.Delete, N: n} }
func insert(n int) script.Step { return script.Step{Kind: api.Insert, N: n} }

// table tells, for all i and j, how many numbers the first i of a and the first j of b have in common.
func table(a, b []int) [][]int {
	t := make([][]int, len(a)+1)
	for i := range t {
		t[i] = make([]int, len(b)+1)
		for j := range t[i] {
			switch {
			case i == 0 || j == 0:
			case a[i-1] == b[j-1]:
				t[i][j] = t[i-1][j-1] + 1
			default:
				t[i][j] = max(t[i-1][j], t[i][j-1])
			}
		}
	}
	return t
}

func reversed(l []int) []int {
	out := slices.Clone(l)
	slices.Reverse(out)
	return out
}

// byTheWay tells how many numbers are common, and the script of the way, as the document's words say.
func byTheWay(a, b []int) (int, []script.Step) {
	ahead, behind := table(a, b), table(reversed(a), reversed(b))
	common := ahead[len(a)][len(b)]
	least := make([]int, len(a)+1)
	for i := range least {
		for ahead[i][least[i]]+behind[len(a)-i][len(b)-least[i]] != common {
			least[i]++
		}
	}
	var l []script.Step
	gone := 0
	for i := range a {
		if least[i+1] == least[i] {
			l = append(l, del(1))
			continue
		}
		for ; gone < least[i+1]-1; gone++ {
			l = append(l, insert(1))
		}
		l = append(l, keep(1))
		gone++
	}
	for ; gone < len(b); gone++ {
		l = append(l, insert(1))
	}
	return common, script.Normal(l)
}

// check holds all answers of two lists against the words.
func check(t *testing.T, a, b []int) {
	t.Helper()
	common, want := byTheWay(a, b)
	far := len(a) + len(b) - 2*common
	if n := lcs.Common(a, b); n != common {
		t.Fatalf("Common(%v, %v): %d, not %d", a, b, n, common)
	}
	for _, most := range []int{far, far + 1, far + 2, far + 100, math.MaxInt} {
		if n, ok := lcs.Distance(a, b, most); n != far || !ok {
			t.Fatalf("Distance(%v, %v, %d): %d, %v, not %d", a, b, most, n, ok, far)
		}
		l, ok := lcs.Diff(a, b, most)
		if !ok || !slices.Equal(l, want) {
			t.Fatalf("Diff(%v, %v, %d): %v, %v, not %v", a, b, most, l, ok, want)
		}
		if !script.Leads(l, a, b) || script.Counts(l)[api.Keep] != common {
			t.Fatalf("Diff(%v, %v): %v does not lead", a, b, l)
		}
	}
	for _, most := range []int{far - 1, far - 2, -1, math.MinInt} {
		if n, ok := lcs.Distance(a, b, most); n != 0 || ok {
			t.Fatalf("Distance(%v, %v, %d): %d, %v", a, b, most, n, ok)
		}
		if l, ok := lcs.Diff(a, b, most); len(l) != 0 || ok {
			t.Fatalf("Diff(%v, %v, %d): %v, %v", a, b, most, l, ok)
		}
	}
}

// 18.1
func TestDiff(t *testing.T) {
	for _, c := range []struct {
		a, b []int
		want []script.Step
	}{
		{[]int{1, 2, 3}, []int{2, 4, 3}, []script.Step{del(1), keep(1), insert(1), keep(1)}},
		{[]int{5, 5}, []int{5}, []script.Step{del(1), keep(1)}},
		{[]int{5}, []int{5, 5}, []script.Step{keep(1), insert(1)}},
		{nil, nil, nil},
		{[]int{7}, nil, []script.Step{del(1)}},
		{nil, []int{7, 8}, []script.Step{insert(2)}},
		{[]int{1, 2, 3}, []int{1, 2, 3}, []script.Step{keep(3)}},
		{[]int{1, 2}, []int{2, 1}, []script.Step{del(1), keep(1), insert(1)}},
		{[]int{-1, 2}, []int{3, -1}, []script.Step{insert(1), keep(1), del(1)}},
		{[]int{1, 2, 3}, []int{4, 5}, []script.Step{del(3), insert(2)}},
		{[]int{1, 9, 2}, []int{1, 8, 2}, []script.Step{keep(1), del(1), insert(1), keep(1)}},
	} {
		if l, ok := lcs.Diff(c.a, c.b, 100); !ok || !slices.Equal(l, c.want) {
			t.Errorf("Diff(%v, %v): %v, %v, not %v", c.a, c.b, l, ok, c.want)
		}
		check(t, c.a, c.b)
	}
}

// 18.1, 18.2: all short lists of few numbers.
func TestAllShortLists(t *testing.T) {
	var all [][]int
	for length := range 6 {
		n := 1
		for range length {
			n *= 3
		}
		for code := range n {
			l := make([]int, length)
			for i := range l {
				l[i] = code % 3
				code /= 3
			}
			all = append(all, l)
		}
	}
	for i, a := range all {
		for j, b := range all {
			if (i+j)%3 == 0 || len(a)+len(b) < 8 {
				check(t, a, b)
			}
		}
	}
}

// 18.1, 18.2: longer ones, much alike and not.
func TestLongerLists(t *testing.T) {
	for seed := range 600 {
		s := sample.From(seed)
		few := 1 + s.Below(12)
		a := make([]int, s.Below(60))
		for i := range a {
			a[i] = s.Below(few) - 3
		}
		var b []int
		for _, n := range a {
			for s.Once(5) {
				b = append(b, s.Below(few))
			}
			if !s.Once(4) {
				b = append(b, n)
			}
		}
		if s.Once(3) {
			slices.Reverse(b)
		}
		check(t, a, b)
	}
}

// 18.1: as far from each other as more levels go than are kept.
func TestFarLists(t *testing.T) {
	for seed := range 6 {
		s := sample.From(seed)
		a, b := make([]int, 300+200*(seed%3)), make([]int, 700-150*(seed%4))
		for i := range a {
			a[i] = s.Below(2 + 10*seed)
		}
		for i := range b {
			b[i] = s.Below(2 + 10*seed)
		}
		check(t, a, b)
	}
	a := make([]int, 500)
	for i := range a {
		a[i] = i
	}
	check(t, a, reversed(a))
}

// 18.1: what is far from each other is refused soon, what is near told soon, however long it is.
func TestLongLists(t *testing.T) {
	const n = 100000
	a := make([]int, n)
	for i := range a {
		a[i] = i * 7
	}
	b := slices.Delete(slices.Clone(a), 1000, 1003)
	b = slices.Insert(b, 50000, 5, 6)
	if d, ok := lcs.Distance(a, b, 5); d != 5 || !ok {
		t.Errorf("%d, %v", d, ok)
	}
	want := []script.Step{keep(1000), del(3), keep(49000), insert(2), keep(n - 50003)}
	if l, ok := lcs.Diff(a, b, 4096); !ok || !slices.Equal(l, want) {
		t.Errorf("%v, %v", l, ok)
	}
	if d, ok := lcs.Distance(a, reversed(a), 4096); d != 0 || ok {
		t.Errorf("%d, %v", d, ok)
	}
}

// 18.1: lists of one number, as it stands in others again and again.
func TestOneAmongMany(t *testing.T) {
	const n = 2000
	fives := make([]int, n)
	if l, ok := lcs.Diff([]int{0}, fives, n); !ok || !slices.Equal(l, []script.Step{keep(1), insert(n - 1)}) {
		t.Errorf("%v, %v", l, ok)
	}
	if l, ok := lcs.Diff(fives, []int{0}, n); !ok || !slices.Equal(l, []script.Step{del(n - 1), keep(1)}) {
		t.Errorf("%v, %v", l, ok)
	}
	if k := lcs.Common(fives, fives[:n/2]); k != n/2 {
		t.Errorf("%d in common", k)
	}
}

// R4
func TestNothingIsChanged(t *testing.T) {
	a, b := []int{3, 1, 2, 9}, []int{1, 3, 2, 9}
	lcs.Diff(a[:3], b[:3], 10)
	if !slices.Equal(a, []int{3, 1, 2, 9}) || !slices.Equal(b, []int{1, 3, 2, 9}) {
		t.Error("a list is changed")
	}
}
