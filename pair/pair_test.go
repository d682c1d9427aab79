package pair_test

import (
	"math"
	"slices"
	"testing"

	"cento/api"
	"cento/pair"
	"cento/sample"
	"cento/text"
)

// 19.1
func TestScore(t *testing.T) {
	for _, c := range []struct {
		a, b string
		want int
	}{
		{"_", "_", 0}, {"_", "{}", 0}, {"{}", "y[]", 0}, {"y[1]", "t[1]", 0}, {"p[{}]", "c[{}]", 0},
		{"{}", "{}", 1}, {"{1}", "{}", 1}, {"{1}", "{2}", 1}, {"{1}", "{1}", 2}, {"{1,2,3}", "{1,5,3}", 3}, {"{1,2}", "{2,1}", 1}, {"{0}", "{}", 1}, {"{0}", "{0,0}", 2},
		{"{|{1},y[2]}", "{|{1,0},y[2]}", 3}, {"{|{1},y[2]}", "{|{2},y[2],_}", 2}, {"{|_}", "{|_}", 2}, {"{|_}", "{}", 1}, {"{7|{1}}", "{7|{1}}", 3},
		{"y[1,2,3]", "y[1,3,3]", 3}, {"y[1,2]", "y[2,1]", 1}, {"y[]", "y[]", 1}, {"v[0,0]", "v[0]", 2},
		{"p[_,{1}]", "p[_,{1},{2}]", 3}, {"c[{1},{2}]", "c[{1},{3}]", 2},
	} {
		a, _ := text.Parse(c.a)
		b, _ := text.Parse(c.b)
		if n := pair.Score(a, b); n != c.want {
			t.Errorf("Score(%s, %s): %d, not %d", c.a, c.b, n, c.want)
		}
		if n := pair.Score(b, a); n != c.want {
			t.Errorf("Score(%s, %s): %d, not %d", c.b, c.a, n, c.want)
		}
	}
	atom := api.Tree{Kind: api.Atom, Words: []uint64{5}}
	if n := pair.Score(atom, atom); n != 0 {
		t.Errorf("two atoms: %d", n)
	}
}

// 19.2
func TestPick(t *testing.T) {
	for _, c := range []struct {
		scores [][]int
		want   []pair.Pair
	}{
		{nil, nil},
		{[][]int{nil, nil}, nil},
		{[][]int{{0, -1}, {0, math.MinInt}}, nil},
		{[][]int{{1, 2}, {3, 1}}, []pair.Pair{{1, 0}}},
		{[][]int{{2, 2}, {2, 2}}, []pair.Pair{{0, 0}, {1, 1}}},
		{[][]int{{1, 2}, {2, 1}}, []pair.Pair{{0, 1}}},
		{[][]int{{0, 5, 0}, {5, 0, 0}, {0, 0, 1}}, []pair.Pair{{0, 1}, {2, 2}}},
		{[][]int{{1}, {2}, {2}}, []pair.Pair{{1, 0}}},
		{[][]int{{1, 2, 2}}, []pair.Pair{{0, 1}}},
		{[][]int{{1, 0, 0}, {0, 1, 9}, {0, 8, 1}}, []pair.Pair{{0, 0}, {1, 2}}},
		{[][]int{{}, {0, 0, 7}, {3}, {0, 0, 0, 4}}, []pair.Pair{{1, 2}, {3, 3}}},
		{[][]int{{math.MaxInt, 1}, {1, math.MaxInt}}, []pair.Pair{{0, 0}, {1, 1}}},
	} {
		if l := pair.Pick(c.scores); !slices.Equal(l, c.want) {
			t.Errorf("Pick(%v): %v, not %v", c.scores, l, c.want)
		}
	}
}

// 19.2: only the first sixteen of each are looked at.
func TestMost(t *testing.T) {
	scores := make([][]int, 20)
	for i := range scores {
		scores[i] = make([]int, 20)
		scores[i][i] = 1
	}
	scores[16][0], scores[0][16] = 100, 100
	l := pair.Pick(scores)
	if len(l) != 16 {
		t.Fatalf("%v", l)
	}
	for i, p := range l {
		if p != (pair.Pair{I: i, J: i}) {
			t.Errorf("%v", l)
		}
	}
}

// greedy picks as the document's words say, looking through all pairs each time.
func greedy(scores [][]int) []pair.Pair {
	var out []pair.Pair
	gone := map[pair.Pair]int{}
	for {
		best, score := pair.Pair{}, 0
		for i := range min(16, len(scores)) {
			for j := range min(16, len(scores[i])) {
				if gone[pair.Pair{I: i, J: j}] == 0 && scores[i][j] > score {
					best, score = pair.Pair{I: i, J: j}, scores[i][j]
				}
			}
		}
		if score == 0 {
			break
		}
		gone[best] = 1
		free := true
		for _, p := range out {
			free = free && (p.I < best.I && p.J < best.J || best.I < p.I && best.J < p.J)
		}
		if free {
			out = append(out, best)
		}
	}
	slices.SortFunc(out, func(p, q pair.Pair) int { return p.I - q.I })
	return out
}

// 19.2, 19.3
func TestManyScores(t *testing.T) {
	for seed := range 1000 {
		s := sample.From(seed)
		scores := make([][]int, s.Below(19))
		few := 2 + s.Below(6)
		for i := range scores {
			scores[i] = make([]int, s.Below(19))
			for j := range scores[i] {
				scores[i][j] = s.Below(few) - 1
			}
		}
		l := pair.Pick(scores)
		if !slices.Equal(l, greedy(scores)) {
			t.Fatalf("Pick(%v): %v, not %v", scores, l, greedy(scores))
		}
		for i := 1; i < len(l); i++ {
			if l[i-1].I >= l[i].I || l[i-1].J >= l[i].J {
				t.Fatalf("%v does not rise", l)
			}
		}
	}
}
