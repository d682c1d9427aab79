package equal_test

import (
	"testing"

	"cento/api"
	"cento/build"
	"cento/equal"
	"cento/reader"
	"cento/sample"
	"cento/text"
	"cento/tree"
)

// values tells the value of a tree in three messages: just as it stands, and of the words that count, in one segment, and in several.
func values(t *testing.T, x api.Tree) []reader.Ref {
	t.Helper()
	one, ok1 := build.Build(x, api.MaxOut, api.MaxOut)
	several, ok2 := build.Build(x, 2, api.MaxOut)
	if !ok1 || !ok2 {
		t.Fatalf("%s: there is no room", text.Print(x))
	}
	return []reader.Ref{sample.Value(x), sample.Root(one), sample.Root(several)}
}

func hash(t *testing.T, r reader.Ref) uint64 {
	t.Helper()
	n, err := equal.Hash(r)
	if err != api.OK {
		t.Fatal(err)
	}
	return n
}

// compare holds what is said of values of two trees against these.
func compare(t *testing.T, x, y api.Tree) {
	t.Helper()
	want := tree.Equal(x, y)
	for i, a := range values(t, x) {
		for j, b := range values(t, y) {
			if got, err := equal.Values(a, b); got != want || err != api.OK {
				t.Errorf("%s, %d, and %s, %d: %v, %d", text.Print(x), i, text.Print(y), j, got, err)
			}
			if want && hash(t, a) != hash(t, b) {
				t.Errorf("%s, %d, and %s, %d have two hashes", text.Print(x), i, text.Print(y), j)
			}
		}
	}
}

// 15.1
func TestValuesAndHash(t *testing.T) {
	texts := []string{
		"_", "{}", "{0}", "{|_}", "{0,0|_,_}", "{7}", "{7,0}", "{7|_}", "{0,7}", "{8}", "{7|{}}", "{7|{0}}", "{7|_,{}}", "{|{7}}", "{|y[7]}",
		"v[]", "v[0]", "v[0,0]", "b[]", "b[0]", "b[1]", "y[1]", "y[0]", "y[1,0]", "y[0,1]", "t[1]", "f[1]", "e[1]", "e[]", "p[]", "p[_]", "p[_,_]", "p[{}]", "p[{0},_]", "p[{},_]", "p[_,{}]",
		"c[]", "c[{}]", "c[{0}]", "c[{|_}]", "c[{},{}]", "c[{1},{}]", "c[{1,0},{0|_}]", "c[{},{1}]", "c[{|y[1]},{}]", "p[{|y[1]},{}]",
	}
	for _, a := range texts {
		for _, b := range texts {
			x, _ := text.Parse(a)
			y, _ := text.Parse(b)
			compare(t, x, y)
		}
	}
}

// 15.1
func TestManyTrees(t *testing.T) {
	same := 0
	for seed := range 1500 {
		s := sample.From(seed)
		x := s.Tree(4)
		y := s.Like(x, 4)
		compare(t, x, y)
		compare(t, x, tree.Norm(x))
		if tree.Equal(x, y) {
			same++
		}
	}
	if same < 100 || same > 1400 {
		t.Errorf("%d of 1500 mean the same", same)
	}
}

// 15.1: atoms, of lists of several kinds, and kids.
func TestKids(t *testing.T) {
	x, _ := text.Parse("p[y[5,0,5],e[5],v[0],{5}]")
	r := values(t, x)[0]
	kid := func(l ...int) reader.Ref {
		k := r
		for _, i := range l {
			k, _ = k.Kid(i)
		}
		return k
	}
	for _, c := range []struct {
		a, b reader.Ref
		want bool
	}{
		{kid(0, 0), kid(0, 2), true}, {kid(0, 0), kid(0, 1), false}, {kid(0, 0), kid(1, 0), true}, {kid(0, 1), kid(2, 0), true},
		{kid(0, 0), kid(3), false}, {kid(0), kid(1), false}, {kid(9), reader.Ref{}, true}, {kid(0), reader.Ref{}, false},
	} {
		if got, err := equal.Values(c.a, c.b); got != c.want || err != api.OK {
			t.Errorf("%v, not %v, %d", got, c.want, err)
		}
		if c.want && hash(t, c.a) != hash(t, c.b) {
			t.Error("two hashes")
		}
	}
}
