package hub_test

import (
	"testing"

	"cento/api"
	"cento/apply"
	"cento/edit"
	"cento/etext"
	"cento/hub"
	"cento/normal"
	"cento/sample"
	"cento/text"
	"cento/tree"
)

// Short forms of what the tests are written with.
var tr, ed = sample.TreeOf, sample.EditOf

func hubIs(t *testing.T, h *hub.Hub, now string, version int) {
	t.Helper()
	if x, v := h.Now(); text.Print(x) != now || v != version {
		t.Errorf("the hub: %s, %d, not %s, %d", text.Print(x), v, now, version)
	}
}

func deskIs(t *testing.T, d *hub.Desk, now string, version int, unsent string) {
	t.Helper()
	if x, v, e := d.Now(); text.Print(x) != now || v != version || etext.Print(e) != unsent {
		t.Errorf("the desk: %s, %d, %s, not %s, %d, %s", text.Print(x), v, etext.Print(e), now, version, unsent)
	}
}

func push(t *testing.T, h *hub.Hub, version int, e string, want int, wantErr api.Errno) {
	t.Helper()
	if v, err := h.Push(version, ed(e)); v != want || err != wantErr {
		t.Errorf("Push(%d, %s): %d, %d, not %d, %d", version, e, v, err, want, wantErr)
	}
}

func pull(t *testing.T, h *hub.Hub, version int, want ...string) {
	t.Helper()
	l, err := h.Pull(version)
	ok := err == api.OK && len(l) == len(want)
	for i := 0; ok && i < len(l); i++ {
		ok = etext.Print(l[i]) == want[i]
	}
	if !ok {
		t.Errorf("Pull(%d): %+v, %d, not %v", version, l, err, want)
	}
}

func do(t *testing.T, d *hub.Desk, e string, want api.Errno) {
	t.Helper()
	if err := d.Do(ed(e)); err != want {
		t.Errorf("Do(%s): %d, not %d", e, err, want)
	}
}

func sync(t *testing.T, d *hub.Desk, h *hub.Hub, want api.Errno) {
	t.Helper()
	if err := d.Sync(h); err != want {
		t.Errorf("Sync: %d, not %d", err, want)
	}
}

func reset(t *testing.T, d *hub.Desk, h *hub.Hub, want api.Errno) {
	t.Helper()
	if err := d.Reset(h); err != want {
		t.Errorf("Reset: %d, not %d", err, want)
	}
}

// grow makes what is no kid 64 structs within one another.
func grow() api.Edit {
	return api.Edit{Kind: api.StructEdit, Kids: []api.KidEdit{{At: 0, E: api.Edit{Kind: api.Replace, New: sample.Nested(64)}}}}
}

// wrong are edits that are not right.
func wrong() []api.Edit {
	return []api.Edit{{Kind: 4}, {List: 4}, {Kind: api.StructEdit, Words: []api.WordEdit{{At: 0}}}}
}

// 43.1
func TestHub(t *testing.T) {
	h := hub.New(tr("{1,1,0|_}"))
	hubIs(t, h, "{1,1}", 0)
	pull(t, h, 0)
	push(t, h, 0, "s{0:1:1:2|}", 1, api.OK)
	hubIs(t, h, "{2,1}", 1)
	push(t, h, 0, "s{1:1:1:3|}", 2, api.OK)
	hubIs(t, h, "{2,3}", 2)
	pull(t, h, 0, "s{0:1:1:2|}", "s{1:1:1:3|}")
	pull(t, h, 1, "s{1:1:1:3|}")
	pull(t, h, 2)
	// What is left is what is in the log.
	push(t, h, 0, "s{0:3:1:102|}", 3, api.OK)
	pull(t, h, 2, "s{0:2:0:100|}")
	push(t, h, 0, "s{0:1:1:2|}", 4, api.OK)
	pull(t, h, 3, "=")
	hubIs(t, h, "{102,3}", 4)
	push(t, h, 4, "=", 5, api.OK)
	push(t, h, 0, "s{0:1:1:4|}", 0, api.ErrMismatch)
	push(t, h, 0, "s{0:1:5:4|}", 0, api.ErrIncompatible)
	push(t, h, 5, "s{0:1:5:4|}", 0, api.ErrMismatch)
	push(t, h, 6, "=", 0, api.ErrArg)
	push(t, h, -1, "=", 0, api.ErrArg)
	for _, e := range wrong() {
		if v, err := h.Push(0, e); v != 0 || err != api.ErrArg {
			t.Errorf("Push(%+v): %d, %d", e, v, err)
		}
	}
	if v, err := h.Push(5, grow()); v != 0 || err != api.ErrLimit {
		t.Errorf("65 within one another: %d, %d", v, err)
	}
	for _, version := range []int{-1, 6, 100} {
		if l, err := h.Pull(version); len(l) != 0 || err != api.ErrArg {
			t.Errorf("Pull(%d): %v, %d", version, l, err)
		}
	}
	hubIs(t, h, "{102,3}", 5)
	// It is as it is written that an edit is in the log.
	h = hub.New(tr("y[1]"))
	push(t, h, 0, "ly[+y[2],-y[1]]", 1, api.OK)
	pull(t, h, 0, "ly[-y[1],+y[2]]")
}

// 43.1
func TestNew(t *testing.T) {
	for name, x := range map[string]api.Tree{
		"an atom":           {Kind: api.Atom, Words: []uint64{1}},
		"what is not right": {Kind: api.Bit, Kids: []api.Tree{{Kind: api.Atom, Words: []uint64{2}}}},
		"what is too deep":  sample.Nested(65),
	} {
		if hub.New(x) != nil {
			t.Errorf("%s has a hub", name)
		}
	}
	hubIs(t, hub.New(api.Tree{}), "_", 0)
}

// 43.2
func TestDesk(t *testing.T) {
	h := hub.New(tr("{1,1}"))
	push(t, h, 0, "s{0:1:1:2|}", 1, api.OK)
	d := hub.Open(h)
	deskIs(t, d, "{2,1}", 1, "=")
	do(t, d, "s{0:1:2:5|}", api.OK)
	deskIs(t, d, "{5,1}", 1, "s{0:1:2:5|}")
	do(t, d, "s{0:1:5:6,1:1:1:7|}", api.OK)
	deskIs(t, d, "{6,7}", 1, "s{0:1:2:6,1:1:1:7|}")
	do(t, d, "s{0:1:1:2|}", api.ErrMismatch)
	for _, e := range wrong() {
		if err := d.Do(e); err != api.ErrArg {
			t.Errorf("Do(%+v): %d", e, err)
		}
	}
	if err := d.Do(grow()); err != api.ErrLimit {
		t.Errorf("65 within one another: %d", err)
	}
	deskIs(t, d, "{6,7}", 1, "s{0:1:2:6,1:1:1:7|}")
	hubIs(t, h, "{2,1}", 1)
	do(t, d, "=", api.OK)
	reset(t, d, h, api.OK)
	deskIs(t, d, "{2,1}", 1, "=")
}

// 43.3
func TestSync(t *testing.T) {
	h := hub.New(tr("{1,1}"))
	a, b := hub.Open(h), hub.Open(h)
	do(t, a, "s{0:1:1:2|}", api.OK)
	do(t, b, "s{1:1:1:3|}", api.OK)
	sync(t, a, h, api.OK)
	deskIs(t, a, "{2,1}", 1, "=")
	sync(t, b, h, api.OK)
	deskIs(t, b, "{2,3}", 2, "=")
	sync(t, a, h, api.OK)
	deskIs(t, a, "{2,3}", 2, "=")
	hubIs(t, h, "{2,3}", 2)
	sync(t, a, h, api.OK)
	hubIs(t, h, "{2,3}", 2)

	// Both do the same: nothing is left to be sent.
	do(t, a, "s{0:1:2:4|}", api.OK)
	do(t, b, "s{0:1:2:4|}", api.OK)
	sync(t, a, h, api.OK)
	sync(t, b, h, api.OK)
	deskIs(t, b, "{4,3}", 3, "=")
	hubIs(t, h, "{4,3}", 3)

	// They clash: nothing is changed, till one lets go what was not sent.
	do(t, a, "s{0:1:4:5|}", api.OK)
	do(t, b, "s{0:1:4:6|}", api.OK)
	sync(t, a, h, api.OK)
	sync(t, b, h, api.ErrMismatch)
	deskIs(t, b, "{6,3}", 3, "s{0:1:4:6|}")
	hubIs(t, h, "{5,3}", 4)
	reset(t, b, h, api.OK)
	deskIs(t, b, "{5,3}", 4, "=")
	sync(t, b, h, api.OK)

	// At another hub its version may not be; or what it did is apart from what that has.
	other := hub.New(tr("y[1]"))
	sync(t, b, other, api.ErrArg)
	c := hub.Open(other)
	do(t, c, "ly[+y[2],k1]", api.OK)
	sync(t, c, h, api.ErrIncompatible)
	deskIs(t, c, "y[2,1]", 0, "ly[+y[2],k1]")
	reset(t, c, h, api.OK)
	deskIs(t, c, "{5,3}", 4, "=")
}

// 43.1 to 43.3, R1
func TestNil(t *testing.T) {
	var h *hub.Hub
	var d *hub.Desk
	hubIs(t, h, "_", 0)
	push(t, h, 0, "=", 0, api.ErrNil)
	if _, err := h.Push(-1, api.Edit{Kind: 4}); err != api.ErrNil {
		t.Errorf("Push: %d", err)
	}
	if l, err := h.Pull(0); len(l) != 0 || err != api.ErrNil {
		t.Errorf("Pull: %v, %d", l, err)
	}
	if hub.Open(h) != nil {
		t.Error("a nil hub has a desk")
	}
	deskIs(t, d, "_", 0, "=")
	do(t, d, "=", api.ErrNil)
	there := hub.New(tr("{1}"))
	sync(t, d, there, api.ErrNil)
	sync(t, d, h, api.ErrNil)
	reset(t, d, there, api.ErrNil)
	desk := hub.Open(there)
	do(t, desk, "s{0:1:1:2|}", api.OK)
	sync(t, desk, h, api.ErrNil)
	reset(t, desk, h, api.ErrNil)
	deskIs(t, desk, "{2}", 0, "s{0:1:1:2|}")
}

// 43.4
func TestAllAgree(t *testing.T) {
	sent, refused := 0, 0
	for seed := range 800 {
		s := sample.From(seed)
		first := s.Tree(3)
		h := hub.New(first)
		desks := []*hub.Desk{hub.Open(h), hub.Open(h), hub.Open(h)}
		for range 14 {
			d := desks[s.Below(3)]
			now, version, unsent := d.Now()
			if s.Once(2) {
				e := s.Edit(now, 3)
				want, _ := apply.Edit(e, now)
				if err := d.Do(e); err != api.OK {
					t.Fatalf("seed %d: Do: %d", seed, err)
				}
				if x, v, u := d.Now(); !tree.Equal(x, want) || v != version || !edit.Equal(u, normal.Edit(u)) {
					t.Fatalf("seed %d: %s, %d", seed, text.Print(x), v)
				}
				continue
			}
			before, was := h.Now()
			if err := d.Sync(h); err != api.OK {
				refused++
				x, v, u := d.Now()
				after, is := h.Now()
				if !tree.Equal(x, now) || v != version || !edit.Equal(u, unsent) || was != is || !tree.Equal(before, after) {
					t.Fatalf("seed %d: an error changes something", seed)
				}
				if err := d.Reset(h); err != api.OK {
					t.Fatalf("seed %d: Reset: %d", seed, err)
				}
			}
			sent++
			x, v, u := d.Now()
			y, w := h.Now()
			if !tree.Equal(x, y) || v != w || u.Kind != api.Same {
				t.Fatalf("seed %d: the desk has %s, %d, the hub %s, %d", seed, text.Print(x), v, text.Print(y), w)
			}
		}
		log, err := h.Pull(0)
		x := tree.Norm(first)
		for _, e := range log {
			ok := false
			if x, ok = apply.Edit(e, x); !ok {
				t.Fatalf("seed %d: the log is not defined", seed)
			}
		}
		if y, v := h.Now(); err != api.OK || v != len(log) || !tree.Equal(x, y) {
			t.Fatalf("seed %d: the log leads to %s, not %s", seed, text.Print(x), text.Print(y))
		}
	}
	if sent < 2000 || refused < 200 {
		t.Errorf("%d are sent, %d refused", sent, refused)
	}
}

// 43.4: two that send at one version make the same tree, whoever is first.
func TestWhoeverIsFirst(t *testing.T) {
	both := 0
	for seed := range 2000 {
		s := sample.From(seed)
		x := s.Tree(4)
		p, q := s.Edit(x, 4), s.Edit(x, 4)
		one, other := hub.New(x), hub.New(x)
		_, err1 := one.Push(0, p)
		_, err2 := one.Push(0, q)
		_, err3 := other.Push(0, q)
		_, err4 := other.Push(0, p)
		if err1 != api.OK || err3 != api.OK || err2 != err4 {
			t.Fatalf("%s and %s: %d, %d, %d, %d", etext.Print(p), etext.Print(q), err1, err2, err3, err4)
		}
		if err2 != api.OK {
			continue
		}
		both++
		a, _ := one.Now()
		b, _ := other.Now()
		if !tree.Equal(a, b) {
			t.Fatalf("%s and %s: %s, and %s", etext.Print(p), etext.Print(q), text.Print(a), text.Print(b))
		}
	}
	if both < 500 {
		t.Errorf("only %d times both are taken", both)
	}
}

// R4
func TestTheLogIsNotShared(t *testing.T) {
	h := hub.New(tr("{1}"))
	push(t, h, 0, "s{0:1:1:2|}", 1, api.OK)
	l, _ := h.Pull(0)
	l[0] = api.Edit{Kind: 4}
	pull(t, h, 0, "s{0:1:1:2|}")
}
