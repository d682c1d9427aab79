package lcs

// stride is how many levels are forgotten between two that are kept.
const stride = 64

// grid has two lists, from their ends on. A point is how many numbers of each are gone through; it is on the diagonal of how many more these are of a than of b. A way goes from the point of none to that of all, the end: from a point to the next one of its diagonal, if both numbers are the same, or to the next diagonal on either side, which is an edit.
//
// A level p tells, for each diagonal, the farthest point (how many numbers of a) to which a way leads that, with as many edits as lie between that diagonal and the end's, has no more edits than distance(p). Points short of it on its diagonal are reached so, too.
type grid struct {
	a, b []int

	// top is the first level that reaches the end.
	top int

	// kept is the last level ahead of each block of levels but the first one; block is the levels at hand, the number of whose first one is from.
	kept  [][]int
	block [][]int
	from  int
}

// gridOf tells the grid of what stands in two lists at these places.
func gridOf(a, inA, b, inB []int) *grid {
	return &grid{a: turned(a, inA), b: turned(b, inB)}
}

// turned tells what stands in a list at places, the last one first.
func turned(l, at []int) []int {
	out := make([]int, len(at))
	for i, n := range at {
		out[len(at)-1-i] = l[n]
	}
	return out
}

// end tells the diagonal of the end.
func (g *grid) end() int { return len(g.a) - len(g.b) }

// distance tells how many edits a way to the end has at the most on a level.
func (g *grid) distance(p int) int { return size(g.end()) + 2*p }

// low tells the first diagonal of a level.
func (g *grid) low(p int) int { return min(0, g.end()) - p }

// climb goes up to the level that reaches the end; false: its distance is more than most.
func (g *grid) climb(most int) bool {
	var level []int
	for p := 0; g.distance(p) <= most; p++ {
		level = g.next(level, p)
		if level[g.end()-g.low(p)] >= len(g.a) {
			g.top = p
			return true
		}
		if p%stride == stride-1 {
			g.kept = append(g.kept, level)
		}
	}
	return false
}

// next tells the level p, of the one ahead of it, if there is one.
func (g *grid) next(last []int, p int) []int {
	low := g.low(p)
	level := make([]int, g.distance(p)+1)
	end := g.end() - low
	// Towards the diagonal of the end an edit leads on within the level, away from it to the next one.
	for i := 0; i < end; i++ {
		if p > 0 {
			level[i] = last[i]
		}
		if i > 0 {
			level[i] = max(level[i], level[i-1]+1)
		}
		level[i] = g.slide(level[i], low+i)
	}
	for i := len(level) - 1; i > end; i-- {
		if p > 0 {
			level[i] = last[i-2] + 1
		}
		if i+1 < len(level) {
			level[i] = max(level[i], level[i+1])
		}
		level[i] = g.slide(level[i], low+i)
	}
	if end > 0 {
		level[end] = level[end-1] + 1
	}
	if end+1 < len(level) {
		level[end] = max(level[end], level[end+1])
	}
	level[end] = g.slide(level[end], g.end())
	return level
}

// slide goes on along a diagonal, as long as both numbers are the same.
func (g *grid) slide(x, diagonal int) int {
	for x < len(g.a) && x-diagonal < len(g.b) && g.a[x] == g.b[x-diagonal] {
		x++
	}
	return x
}

// level tells a level up to the top. One that is asked for is never much above the one that was asked for last, so each block is made again but once.
func (g *grid) level(p int) []int {
	if p < g.from || p >= g.from+len(g.block) {
		g.load(p / stride)
	}
	return g.block[p-g.from]
}

// load makes the levels of a block again, behind the one ahead of it, which stays at hand.
func (g *grid) load(block int) {
	p := block * stride
	g.from, g.block = p, nil
	var level []int
	if block > 0 {
		level = g.kept[block-1]
		g.from, g.block = p-1, [][]int{level}
	}
	for ; p < (block+1)*stride && p <= g.top; p++ {
		level = g.next(level, p)
		g.block = append(g.block, level)
	}
}

// pair is a number of each list, from the beginnings on.
type pair struct{ i, j int }

// way tells which numbers are kept: at each number of a as few of b are gone through as can be, so it is deleted, if that is no way round.
func (g *grid) way() []pair {
	var out []pair
	i, j, left := 0, 0, g.distance(g.top)
	for i < len(g.a) && j < len(g.b) {
		switch {
		case g.within(i+1, j, left-1):
			i++
			left--
		case g.a[len(g.a)-1-i] == g.b[len(g.b)-1-j]:
			out = append(out, pair{i, j})
			i++
			j++
		default:
			j++
			left--
		}
	}
	return out
}

// within tells whether no more than so many edits lie behind a point, from the beginnings on, which is within the top level, and of the parity that it may have.
func (g *grid) within(i, j, edits int) bool {
	p := (edits - size(g.end()) + size(i-j)) / 2
	if edits < 0 || p < 0 {
		return false
	}
	at := g.end() - (i - j) - g.low(p)
	level := g.level(p)
	return at >= 0 && at < len(level) && len(g.a)-i <= level[at]
}

// size tells how far a number is from 0.
func size(n int) int { return max(n, -n) }
