package sample_test

import (
	"testing"

	"cento/api"
	"cento/arena"
	"cento/reader"
	"cento/sample"
	"cento/text"
	"cento/tree"
	"cento/unfold"
)

// What the tests of the layers lean on: the trees are right, of all kinds, and their messages mean them.
func TestTreesAndMessages(t *testing.T) {
	kinds := map[int]int{}
	for seed := range 2000 {
		s := sample.From(seed)
		x := s.Tree(4)
		y := s.Like(x, 4)
		for _, z := range []api.Tree{x, y} {
			if !tree.Right(z) || tree.Depth(z) > 4 || z.Kind == api.Atom {
				t.Fatalf("seed %d: %s", seed, text.Print(z))
			}
			kinds[z.Kind]++
			r, err := reader.Root(arena.Of([][]uint64{sample.Message(z)}))
			if err != api.OK {
				t.Fatalf("seed %d: %s: %d", seed, text.Print(z), err)
			}
			got, err := unfold.Value(r)
			if err != api.OK || !tree.Equal(got, z) {
				t.Fatalf("seed %d: %s means %s, %d", seed, text.Print(z), text.Print(got), err)
			}
		}
		if again := sample.From(seed).Tree(4); text.Print(again) != text.Print(x) {
			t.Fatalf("seed %d: not the same again", seed)
		}
	}
	for kind := api.Null; kind <= api.Composite; kind++ {
		if kinds[kind] < 20 {
			t.Errorf("only %d trees of kind %d", kinds[kind], kind)
		}
	}
}
