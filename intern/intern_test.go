package intern_test

import (
	"slices"
	"testing"

	"cento/api"
	"cento/intern"
	"cento/reader"
	"cento/sample"
	"cento/text"
	"cento/tree"
)

func class(t *testing.T, table *intern.Table, s string, want, classes int) {
	t.Helper()
	if n, err := table.Class(sample.ValueOf(s)); n != want || err != api.OK || table.Len() != classes {
		t.Errorf("%s: class %d of %d, %d, not %d of %d", s, n, table.Len(), err, want, classes)
	}
}

// 16.1, 16.2
func TestClass(t *testing.T) {
	table := intern.New()
	if table.Len() != 0 {
		t.Errorf("a new table has %d classes", table.Len())
	}
	class(t, table, "{5}", 0, 1)
	class(t, table, "{5,0|_}", 0, 1)
	class(t, table, "_", 1, 2)
	class(t, table, "{}", 2, 3)
	class(t, table, "{0}", 2, 3)
	class(t, table, "y[5]", 3, 4)
	class(t, table, "t[5]", 4, 5)
	class(t, table, "{5|{5}}", 5, 6)
	class(t, table, "{5}", 0, 6)
	class(t, table, "y[5]", 3, 6)
	if n := intern.New().Len(); n != 0 {
		t.Errorf("another table has %d classes", n)
	}
}

// 16.1
func TestKids(t *testing.T) {
	table := intern.New()
	for _, c := range []struct {
		s       string
		want    []int
		classes int
	}{
		{"y[5,7,5]", []int{0, 1, 0}, 2},
		{"e[7,5,9]", []int{1, 0, 2}, 3},
		{"p[{1},_,{1,0},_,y[5]]", []int{3, 4, 3, 4, 5}, 6},
		{"c[{0|_},{1},{}]", []int{6, 3, 6}, 7},
		{"{7|y[5],{}}", []int{5, 6}, 7},
		{"{7}", nil, 7},
		{"_", nil, 7},
		{"y[]", nil, 7},
	} {
		if l, err := table.Kids(sample.ValueOf(c.s)); err != api.OK || !slices.Equal(l, c.want) || table.Len() != c.classes {
			t.Errorf("%s: %v of %d, %d", c.s, l, table.Len(), err)
		}
	}
}

// 16.2
func TestTwoHaveOneClassJustIfTheyMeanTheSame(t *testing.T) {
	table := intern.New()
	var firsts []api.Tree
	for seed := range 3000 {
		x := sample.From(seed).Tree(3)
		n, err := table.Class(sample.Value(x))
		if err != api.OK || n > len(firsts) {
			t.Fatalf("%s: class %d, %d", text.Print(x), n, err)
		}
		if n == len(firsts) {
			firsts = append(firsts, x)
			for i, y := range firsts[:n] {
				if tree.Equal(x, y) {
					t.Fatalf("%s is of class %d, %s of %d", text.Print(x), n, text.Print(y), i)
				}
			}
		}
		if !tree.Equal(x, firsts[n]) || table.Len() != len(firsts) {
			t.Fatalf("%s is of class %d, as %s", text.Print(x), n, text.Print(firsts[n]))
		}
	}
	if len(firsts) < 300 {
		t.Errorf("only %d classes", len(firsts))
	}
}

// 16.1
func TestManyClasses(t *testing.T) {
	list := api.Tree{Kind: api.Eight}
	for i := range 5000 {
		list.Kids = append(list.Kids, api.Tree{Kind: api.Atom, Words: []uint64{uint64(i) << 40}})
	}
	table := intern.New()
	for range 2 {
		l, err := table.Kids(sample.Value(list))
		if err != api.OK || table.Len() != 5000 {
			t.Fatalf("%d classes, %d", table.Len(), err)
		}
		for i, n := range l {
			if i != n {
				t.Fatalf("number %d is of class %d", i, n)
			}
		}
	}
}

// 16.1, R1
func TestNil(t *testing.T) {
	var table *intern.Table
	if table.Len() != 0 {
		t.Error("Len")
	}
	if n, err := table.Class(sample.ValueOf("{5}")); n != 0 || err != api.ErrNil {
		t.Errorf("Class: %d, %d", n, err)
	}
	if n, err := table.Class(reader.Ref{}); n != 0 || err != api.ErrNil {
		t.Errorf("Class of nothing: %d, %d", n, err)
	}
	if l, err := table.Kids(sample.ValueOf("y[5]")); len(l) != 0 || err != api.ErrNil {
		t.Errorf("Kids: %v, %d", l, err)
	}
	if l, err := table.Kids(sample.ValueOf("{5}")); len(l) != 0 || err != api.OK {
		t.Errorf("Kids of none: %v, %d", l, err)
	}
	if table.Len() != 0 {
		t.Error("it does not stay so")
	}
}
