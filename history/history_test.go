package history_test

import (
	"testing"

	"cento/api"
	"cento/apply"
	"cento/edit"
	"cento/etext"
	"cento/history"
	"cento/normal"
	"cento/sample"
	"cento/text"
	"cento/tree"
)

// Short forms of what the tests are written with.
var tr, ed = sample.TreeOf, sample.EditOf

func do(t *testing.T, h *history.History, s string, want api.Errno) {
	t.Helper()
	if err := h.Do(ed(s)); err != want {
		t.Errorf("Do(%s): %d, not %d", s, err, want)
	}
}

// is holds what a history has against what is wanted.
func is(t *testing.T, h *history.History, now string, done, back int) {
	t.Helper()
	d, b := h.Counts()
	if text.Print(h.Now()) != now || d != done || b != back {
		t.Errorf("%s, %d, %d, not %s, %d, %d", text.Print(h.Now()), d, b, now, done, back)
	}
}

func undo(t *testing.T, h *history.History, want bool) {
	t.Helper()
	if h.Undo() != want {
		t.Errorf("Undo: %v", !want)
	}
}

func redo(t *testing.T, h *history.History, want bool) {
	t.Helper()
	if h.Redo() != want {
		t.Errorf("Redo: %v", !want)
	}
}

func drop(t *testing.T, h *history.History, i int, want api.Errno) {
	t.Helper()
	if err := h.Drop(i); err != want {
		t.Errorf("Drop(%d): %d, not %d", i, err, want)
	}
}

func squash(t *testing.T, h *history.History, want string) {
	t.Helper()
	if got := etext.Print(h.Squash()); got != want {
		t.Errorf("Squash: %s, not %s", got, want)
	}
}

// 42.1
func TestNew(t *testing.T) {
	h := history.New(tr("{1,0|_}"))
	is(t, h, "{1}", 0, 0)
	squash(t, h, "=")
	undo(t, h, false)
	redo(t, h, false)
	drop(t, h, 0, api.ErrArg)
	is(t, history.New(api.Tree{}), "_", 0, 0)
	for name, x := range map[string]api.Tree{
		"an atom":           {Kind: api.Atom, Words: []uint64{1}},
		"what is not right": {Kind: api.Bit, Kids: []api.Tree{{Kind: api.Atom, Words: []uint64{2}}}},
		"no kind":           {Kind: 11},
	} {
		if history.New(x) != nil {
			t.Errorf("%s has a history", name)
		}
	}
}

// 42.2
func TestDoUndoRedo(t *testing.T) {
	h := history.New(tr("{1}"))
	do(t, h, "s{0:1:1:2|}", api.OK)
	is(t, h, "{2}", 1, 0)
	do(t, h, "s{0:1:1:3|}", api.ErrMismatch)
	is(t, h, "{2}", 1, 0)
	do(t, h, "=", api.OK)
	do(t, h, "s{1:1:0:5|}", api.OK)
	is(t, h, "{2,5}", 3, 0)
	undo(t, h, true)
	is(t, h, "{2}", 2, 1)
	undo(t, h, true)
	undo(t, h, true)
	is(t, h, "{1}", 0, 3)
	undo(t, h, false)
	is(t, h, "{1}", 0, 3)
	redo(t, h, true)
	is(t, h, "{2}", 1, 2)
	redo(t, h, true)
	redo(t, h, true)
	is(t, h, "{2,5}", 3, 0)
	redo(t, h, false)
	undo(t, h, true)
	do(t, h, "(_>{})", api.ErrMismatch)
	is(t, h, "{2}", 2, 1)
	do(t, h, "({2}>y[1])", api.OK)
	is(t, h, "y[1]", 3, 0)
	redo(t, h, false)
	squash(t, h, "({1}>y[1])")
	undo(t, h, true)
	is(t, h, "{2}", 2, 1)
	squash(t, h, "s{0:1:1:2|}")
}

// 42.2
func TestDoRefuses(t *testing.T) {
	h := history.New(tr("{1}"))
	do(t, h, "s{0:1:1:2|}", api.OK)
	undo(t, h, true)
	for _, e := range []api.Edit{{Kind: 4}, {List: 4}, {Kind: api.StructEdit, Words: []api.WordEdit{{At: 0}}}} {
		if err := h.Do(e); err != api.ErrArg {
			t.Errorf("%+v: %d", e, err)
		}
	}
	is(t, h, "{1}", 0, 1)
	// An edit that is not right is told ahead of one that is not defined, and one that is not defined ahead of a tree that is not right.
	deep := api.Tree{}
	for range 64 {
		deep = api.Tree{Kind: api.Struct, Kids: []api.Tree{deep}}
	}
	grow := api.Edit{Kind: api.StructEdit, Kids: []api.KidEdit{{At: 0, E: api.Edit{Kind: api.Replace, New: deep}}}}
	if err := h.Do(grow); err != api.ErrLimit {
		t.Errorf("65 within one another: %d", err)
	}
	is(t, h, "{1}", 0, 1)
	redo(t, h, true)
	is(t, h, "{2}", 1, 0)
}

// 42.3
func TestDrop(t *testing.T) {
	h := history.New(tr("{1,1,1}"))
	do(t, h, "s{0:1:1:2|}", api.OK)
	do(t, h, "s{1:1:1:3|}", api.OK)
	do(t, h, "s{2:1:1:4|}", api.OK)
	undo(t, h, true)
	drop(t, h, 2, api.ErrArg)
	drop(t, h, -1, api.ErrArg)
	is(t, h, "{2,3,1}", 2, 1)
	drop(t, h, 0, api.OK)
	is(t, h, "{1,3,1}", 1, 0)
	squash(t, h, "s{1:1:1:3|}")
	undo(t, h, true)
	is(t, h, "{1,1,1}", 0, 1)
	redo(t, h, true)
	drop(t, h, 0, api.OK)
	is(t, h, "{1,1,1}", 0, 0)

	h = history.New(tr("y[1,2,3]"))
	do(t, h, "ly[k1,+y[9,8],k2]", api.OK)
	do(t, h, "ly[k5,+y[7]]", api.OK)
	drop(t, h, 0, api.OK)
	is(t, h, "y[1,2,3,7]", 1, 0)
	squash(t, h, "ly[k3,+y[7]]")

	h = history.New(tr("{1}"))
	do(t, h, "s{0:1:1:2|}", api.OK)
	do(t, h, "s{0:1:2:3|}", api.OK)
	undo(t, h, true)
	redo(t, h, true)
	// The second one begins where the first one ends: what becomes of the first one turned round is unlike.
	drop(t, h, 0, api.ErrMismatch)
	is(t, h, "{3}", 2, 0)
	drop(t, h, 1, api.OK)
	is(t, h, "{2}", 1, 0)

	h = history.New(tr("{1}"))
	do(t, h, "s{0:1:1:2|}", api.OK)
	do(t, h, "s{0:1:2:1|}", api.OK)
	// The second one does what the first one turned round does: nothing of both is left.
	drop(t, h, 0, api.OK)
	is(t, h, "{1}", 1, 0)
	squash(t, h, "=")
}

// 42.1, R1
func TestNil(t *testing.T) {
	var h *history.History
	is(t, h, "_", 0, 0)
	do(t, h, "=", api.ErrNil)
	if err := h.Do(api.Edit{Kind: 4}); err != api.ErrNil {
		t.Errorf("Do: %d", err)
	}
	undo(t, h, false)
	redo(t, h, false)
	squash(t, h, "=")
	drop(t, h, 0, api.ErrNil)
	drop(t, h, -1, api.ErrNil)
	is(t, h, "_", 0, 0)
}

// 42.3, 42.4
func TestManyHistories(t *testing.T) {
	dropped, refused := 0, 0
	for seed := range 1500 {
		s := sample.From(seed)
		first := s.Tree(3)
		h := history.New(first)
		trees := []api.Tree{h.Now()}
		for range 2 + s.Below(4) {
			e := s.Edit(h.Now(), 3)
			want, _ := apply.Edit(e, h.Now())
			if err := h.Do(e); err != api.OK || !tree.Equal(h.Now(), want) {
				t.Fatalf("%s by %s: %s, %d", text.Print(trees[len(trees)-1]), etext.Print(e), text.Print(h.Now()), err)
			}
			trees = append(trees, h.Now())
		}
		last := len(trees) - 1
		for i := last - 1; i >= 0; i-- {
			if !h.Undo() || text.Print(h.Now()) != text.Print(trees[i]) {
				t.Fatalf("seed %d: %d taken back: %s, not %s", seed, last-i, text.Print(h.Now()), text.Print(trees[i]))
			}
		}
		for i := 1; i <= last; i++ {
			if !h.Redo() || text.Print(h.Now()) != text.Print(trees[i]) {
				t.Fatalf("seed %d: %d done again: %s, not %s", seed, i, text.Print(h.Now()), text.Print(trees[i]))
			}
		}
		checkSquash(t, h, first)
		at := s.Below(last)
		now := h.Now()
		if err := h.Drop(at); err != api.OK {
			refused++
			if done, _ := h.Counts(); done != last || !tree.Equal(h.Now(), now) {
				t.Fatalf("seed %d: an error changes something", seed)
			}
			continue
		}
		dropped++
		if done, back := h.Counts(); done != last-1 || back != 0 {
			t.Fatalf("seed %d: %d, %d", seed, done, back)
		}
		checkSquash(t, h, first)
		for range last - 1 {
			if !h.Undo() {
				t.Fatalf("seed %d: what is moved can't be taken back", seed)
			}
		}
		if !tree.Equal(h.Now(), first) {
			t.Fatalf("seed %d: %s, not %s", seed, text.Print(h.Now()), text.Print(first))
		}
	}
	if dropped < 200 || refused < 200 {
		t.Errorf("%d are dropped, %d are not", dropped, refused)
	}
}

// checkSquash tells whether what is squashed leads from the first tree to the one that is there.
func checkSquash(t *testing.T, h *history.History, first api.Tree) {
	t.Helper()
	e := h.Squash()
	got, ok := apply.Edit(e, first)
	if !ok || !tree.Equal(got, h.Now()) || !edit.Equal(e, normal.Edit(e)) {
		t.Fatalf("%s by %s: %s, %v, not %s", text.Print(first), etext.Print(e), text.Print(got), ok, text.Print(h.Now()))
	}
}
