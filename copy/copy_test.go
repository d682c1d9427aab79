package copy_test

import (
	"math"
	"slices"
	"testing"

	"cento/api"
	"cento/build"
	"cento/canon"
	"cento/copy"
	"cento/reader"
	"cento/sample"
	"cento/text"
)

// 14.1
func TestLongAndWide(t *testing.T) {
	for _, c := range []struct {
		s          string
		long, wide int
	}{
		{"_", 0, 0}, {"{}", 0, 0}, {"{0}", 0, 0}, {"{0,0}", 0, 0}, {"{5}", 1, 0}, {"{5,0}", 1, 0}, {"{0,5,0,0}", 2, 0},
		{"{|_}", 0, 0}, {"{|_,_}", 0, 0}, {"{|{}}", 0, 1}, {"{|_,{0}}", 0, 2}, {"{|_,y[],_,_}", 0, 2}, {"{1|_,_,{|_}}", 1, 3},
		{"p[_,{},_]", 0, 2}, {"p[_]", 0, 0}, {"y[0,0]", 0, 2}, {"c[{},{}]", 0, 2},
	} {
		r := sample.ValueOf(c.s)
		if n := copy.Long(r); n != c.long {
			t.Errorf("Long of %s: %d", c.s, n)
		}
		if n, err := copy.Wide(r); n != c.wide || err != api.OK {
			t.Errorf("Wide of %s: %d, %d", c.s, n, err)
		}
	}
	k, _ := sample.ValueOf("y[0,7]").Kid(1)
	if n := copy.Long(k); n != 1 {
		t.Errorf("Long of an atom: %d", n)
	}
}

// 14.1: a kid with an error is told by its number, if all behind it are nothing.
func TestWideWithAnError(t *testing.T) {
	three := sample.Pointer(sample.ToStruct(0, 0, 3))
	const something = 0xfffffffc
	for _, c := range []struct {
		kids []uint64
		n    int
		err  api.Errno
	}{
		{[]uint64{0, 3, 0}, 2, api.ErrCap},
		{[]uint64{3, 0, 0}, 1, api.ErrCap},
		{[]uint64{0, 0, 3}, 3, api.ErrCap},
		{[]uint64{3, something, 0}, 2, api.OK},
		{[]uint64{0, 10, 0}, 2, api.ErrPtr},
		{[]uint64{1 << 40, 0, 0}, 1, api.ErrBounds},
	} {
		if n, err := copy.Wide(sample.Segment(append([]uint64{three}, c.kids...)...)); n != c.n || err != c.err {
			t.Errorf("%x: %d, %d", c.kids, n, err)
		}
	}
}

// 14.1, 14.2
func TestWords(t *testing.T) {
	for _, s := range []string{
		"_", "{}", "{0}", "{7,0}", "{0,0|_}", "{5,0|p[_],_}", "{|{1,0},_,{2}}", "v[0,0]", "b[1,0,1]", "y[]", "y[1,2,3,4,5,6,7,8,9]", "t[1,2]", "f[1,2,3]", "e[7]",
		"p[]", "p[y[1],{2,0},_,y[],_]", "c[]", "c[{},{}]", "c[{0},{|_}]", "c[{1,0},{0},{2,3,0|_}]", "c[{1|_,_},{|y[1],y[2],_},{|y[3]}]", "{|v[0],p[],{0}}",
		"c[{|c[{|c[{1,0}]}]}]",
	} {
		checkWords(t, s, sample.ValueOf(s))
	}
	if l, err := copy.Words(sample.Segment(0x0000000200000000, 7, 0), 10); err != api.OK || !slices.Equal(l, []uint64{0x0000000100000000, 7}) {
		t.Errorf("the example: %x, %d", l, err)
	}
	for seed := range 3000 {
		x := sample.From(seed).Tree(5)
		checkWords(t, text.Print(x), sample.Value(x))
	}
}

// checkWords holds the words of a value against those of the tree of a text.
func checkWords(t *testing.T, s string, r reader.Ref) {
	t.Helper()
	x, _ := text.Parse(s)
	want, ok := canon.Encode(x, api.MaxOut)
	if !ok {
		t.Fatalf("%s has no words", s)
	}
	for _, most := range []int{len(want), len(want) + 1, api.MaxOut, math.MaxInt} {
		if l, err := copy.Words(r, most); err != api.OK || !slices.Equal(l, want) {
			t.Errorf("%s, at most %d: %x, %d, not %x", s, most, l, err, want)
		}
	}
	for _, most := range []int{len(want) - 1, 0, -1, math.MinInt} {
		if l, err := copy.Words(r, most); err != api.ErrLimit || len(l) != 0 {
			t.Errorf("%s, at most %d: %x, %d", s, most, l, err)
		}
	}
}

// 14.1: wherever its parts lie.
func TestWordsOfSeveralSegments(t *testing.T) {
	for seed := range 500 {
		x := sample.From(seed).Tree(5)
		a, ok := build.Build(x, 1+seed%7, api.MaxOut)
		if !ok {
			t.Fatal("there is no room")
		}
		r, err := reader.Root(a)
		if err != api.OK {
			t.Fatalf("seed %d: %d", seed, err)
		}
		checkWords(t, text.Print(x), r)
	}
}

// 14.1
func TestWordsOfKids(t *testing.T) {
	r := sample.ValueOf("{1|_,c[{1,0},{2|y[1],_}],_}")
	list, _ := r.Kid(1)
	kid, _ := list.Kid(1)
	checkWords(t, "c[{1},{2|y[1]}]", list)
	checkWords(t, "{2|y[1]}", kid)
	checkWords(t, "_", reader.Ref{})
}

// 14.1
func TestWordsRefuses(t *testing.T) {
	k, _ := sample.ValueOf("y[5]").Kid(0)
	for _, most := range []int{-1, 0, 1, 100} {
		if l, err := copy.Words(k, most); err != api.ErrKind || len(l) != 0 {
			t.Errorf("an atom: %x, %d", l, err)
		}
	}
}

// 14.1: at the greatest limits.
func TestTheGreatest(t *testing.T) {
	// Few structs, each with as many words, and one more list: each is told where it is pointed to.
	words := []uint64{sample.Pointer(sample.ToList(0, 6, 3))}
	for i := range 3 {
		words = append(words, sample.Pointer(sample.ToStruct(2-i, 21000, 0)))
	}
	big := make([]uint64, 21000)
	big[20999] = 1
	r := sample.Segment(append(words, big...)...)
	if l, err := copy.Words(r, math.MaxInt); err != api.OK || len(l) != 4+3*21000 {
		t.Errorf("%d words, %d", len(l), err)
	}
	voids := sample.Segment(sample.Pointer(sample.ToList(0, 0, 65535)))
	if l, err := copy.Words(voids, 1); err != api.OK || len(l) != 1 {
		t.Errorf("65535 nothings: %d words, %d", len(l), err)
	}
}
