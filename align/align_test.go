package align_test

import (
	"reflect"
	"testing"

	"cento/align"
	"cento/api"
	"cento/edit"
	"cento/sample"
	"cento/tree"
)

// Short forms of what the tests are written with.
var keep = sample.Keep

func del(l ...uint64) api.Op    { return api.Op{Kind: api.Delete, L: atoms(l)} }
func insert(l ...uint64) api.Op { return api.Op{Kind: api.Insert, L: atoms(l)} }

// descend tells a step whose edit is told by a number.
func descend(n uint64) api.Op {
	return api.Op{Kind: api.Descend, E: api.Edit{Kind: api.StructEdit, Words: []api.WordEdit{{Mask: 1, New: n}}}}
}

func atoms(l []uint64) []api.Tree {
	var out []api.Tree
	for _, n := range l {
		out = append(out, api.Tree{Kind: api.Atom, Words: []uint64{n}})
	}
	return out
}

func both(p, q api.Op) align.Piece { return align.Piece{Of: align.Both, P: p, Q: q} }
func first(p api.Op) align.Piece   { return align.Piece{Of: align.First, P: p} }
func second(q api.Op) align.Piece  { return align.Piece{Of: align.Second, Q: q} }
func isZero(o api.Op) bool         { return same(o, api.Op{}) }
func same(a, b api.Op) bool {
	return a.Kind == b.Kind && a.N == b.N && sameKids(a.L, b.L) && edit.Equal(a.E, b.E)
}

func sameKids(a, b []api.Tree) bool {
	return tree.Equal(api.Tree{Kind: api.Pointers, Kids: a}, api.Tree{Kind: api.Pointers, Kids: b})
}

func samePieces(a, b []align.Piece) bool {
	if len(a) != len(b) {
		return false
	}
	for i := range a {
		if a[i].Of != b[i].Of || !same(a[i].P, b[i].P) || !same(a[i].Q, b[i].Q) {
			return false
		}
	}
	return true
}

type ops = []api.Op
type pieces = []align.Piece

// 24.1
func TestThrough(t *testing.T) {
	for _, c := range []struct {
		p, q ops
		want pieces
		ok   bool
	}{
		{nil, nil, nil, true},
		{ops{keep(3)}, ops{keep(1), insert(9), keep(2)}, pieces{both(keep(1), keep(1)), second(insert(9)), both(keep(2), keep(2))}, true},
		{ops{insert(1, 2)}, ops{insert(3)}, pieces{first(insert(1, 2)), second(insert(3))}, true},
		{ops{insert(1), insert(2), keep(1)}, ops{insert(3), keep(1), insert(4)}, pieces{first(insert(1)), first(insert(2)), second(insert(3)), both(keep(1), keep(1)), second(insert(4))}, true},
		{ops{keep(1), insert(1)}, ops{insert(3), keep(1)}, pieces{second(insert(3)), both(keep(1), keep(1)), first(insert(1))}, true},
		{ops{del(1, 2, 3)}, ops{keep(1), del(2), keep(1)}, pieces{both(del(1), keep(1)), both(del(2), del(2)), both(del(3), keep(1))}, true},
		{ops{keep(1), descend(1), keep(1)}, ops{del(1, 2, 3)}, pieces{both(keep(1), del(1)), both(descend(1), del(2)), both(keep(1), del(3))}, true},
		{ops{descend(1), descend(2)}, ops{descend(3), keep(1)}, pieces{both(descend(1), descend(3)), both(descend(2), keep(1))}, true},
		{ops{del(1), insert(2), del(3)}, ops{keep(2)}, pieces{both(del(1), keep(1)), first(insert(2)), both(del(3), keep(1))}, true},
		{ops{keep(1)}, nil, nil, false},
		{nil, ops{keep(1)}, nil, false},
		{ops{keep(2)}, ops{keep(1), insert(1, 2)}, nil, false},
		{ops{del(1)}, ops{insert(1)}, nil, false},
		{ops{keep(1), insert(1)}, ops{keep(1), descend(1)}, nil, false},
	} {
		if got, ok := align.Through(c.p, c.q); ok != c.ok || !samePieces(got, c.want) {
			t.Errorf("Through(%+v, %+v): %+v, %v", c.p, c.q, got, ok)
		}
	}
}

// 24.1
func TestBehind(t *testing.T) {
	for _, c := range []struct {
		p, q ops
		want pieces
		ok   bool
	}{
		{nil, nil, nil, true},
		{ops{insert(1, 2), keep(1)}, ops{del(1), keep(2)}, pieces{both(insert(1), del(1)), both(insert(2), keep(1)), both(keep(1), keep(1))}, true},
		{ops{del(1), keep(2)}, ops{insert(3), keep(2)}, pieces{first(del(1)), second(insert(3)), both(keep(2), keep(2))}, true},
		{ops{keep(1), del(1), del(2), keep(1)}, ops{keep(1), insert(3), keep(1), insert(4)}, pieces{both(keep(1), keep(1)), first(del(1)), first(del(2)), second(insert(3)), both(keep(1), keep(1)), second(insert(4))}, true},
		{ops{descend(1), insert(2)}, ops{descend(3), descend(4)}, pieces{both(descend(1), descend(3)), both(insert(2), descend(4))}, true},
		{ops{del(1, 2)}, ops{insert(3)}, pieces{first(del(1, 2)), second(insert(3))}, true},
		{ops{keep(2)}, ops{del(1), descend(2)}, pieces{both(keep(1), del(1)), both(keep(1), descend(2))}, true},
		{ops{keep(1)}, nil, nil, false},
		{ops{insert(1)}, nil, nil, false},
		{ops{del(1)}, ops{keep(1)}, nil, false},
		{ops{del(1)}, ops{del(1)}, nil, false},
		{ops{insert(1)}, ops{insert(1)}, nil, false},
		{ops{keep(2)}, ops{keep(3)}, nil, false},
	} {
		if got, ok := align.Behind(c.p, c.q); ok != c.ok || !samePieces(got, c.want) {
			t.Errorf("Behind(%+v, %+v): %+v, %v", c.p, c.q, got, ok)
		}
	}
}

// unit tears steps into steps of one kid each.
func unit(l ops) ops {
	var out ops
	for _, o := range l {
		switch o.Kind {
		case api.Keep:
			for range o.N {
				out = append(out, keep(1))
			}
		case api.Delete, api.Insert:
			for _, k := range o.L {
				out = append(out, api.Op{Kind: o.Kind, L: []api.Tree{k}})
			}
		default:
			out = append(out, o)
		}
	}
	return out
}

func sameOps(a, b ops) bool {
	if len(a) != len(b) {
		return false
	}
	for i := range a {
		if !same(a[i], b[i]) {
			return false
		}
	}
	return true
}

// count tells of how many kids a part is.
func count(o api.Op) int { return len(unit(ops{o})) }

// 24.2
func TestAllPartsAreThere(t *testing.T) {
	refused := 0
	for seed := range 4000 {
		s := sample.From(seed)
		x := s.List([]int{api.Byte, api.Pointers, api.Composite}[s.Below(3)], 3)
		p, q := s.Change(x, 3), s.Change(x, 3)
		if p.Kind != api.ListEdit || q.Kind != api.ListEdit {
			continue
		}
		for i, lay := range []func(p, q []api.Op) ([]align.Piece, bool){align.Through, align.Behind} {
			aloneP := []int{api.Insert, api.Delete}[i]
			ahead, behind := edit.Lengths(p)
			want := []int{ahead, behind}[i]
			have, _ := edit.Lengths(q)
			l, ok := lay(p.Ops, q.Ops)
			if ok != (want == have) || !ok && len(l) > 0 {
				t.Fatalf("%+v and %+v: %v", p.Ops, q.Ops, ok)
			}
			if !ok {
				refused++
				continue
			}
			var ps, qs ops
			for _, c := range l {
				if c.Of != align.Second {
					ps = append(ps, c.P)
				}
				if c.Of != align.First {
					qs = append(qs, c.Q)
				}
				switch c.Of {
				case align.Both:
					ok = c.P.Kind != aloneP && c.Q.Kind != api.Insert && count(c.P) == count(c.Q)
				case align.First:
					ok = c.P.Kind == aloneP && isZero(c.Q)
				case align.Second:
					ok = c.Q.Kind == api.Insert && isZero(c.P)
				}
				if !ok {
					t.Fatalf("%+v and %+v: %+v", p.Ops, q.Ops, c)
				}
			}
			if !sameOps(unit(ps), unit(p.Ops)) || !sameOps(unit(qs), unit(q.Ops)) {
				t.Fatalf("%+v and %+v: %+v", p.Ops, q.Ops, l)
			}
		}
	}
	if refused < 100 {
		t.Errorf("only %d are refused", refused)
	}
}

// R4
func TestNothingIsChanged(t *testing.T) {
	p, q := ops{keep(3), del(1, 2)}, ops{keep(1), del(4, 5, 6), keep(1)}
	align.Through(p, q)
	if !reflect.DeepEqual(p, ops{keep(3), del(1, 2)}) || !reflect.DeepEqual(q, ops{keep(1), del(4, 5, 6), keep(1)}) {
		t.Errorf("%+v, %+v", p, q)
	}
}
