package session_test

import (
	"math"
	"slices"
	"strconv"
	"strings"
	"testing"

	"cento/api"
	"cento/build"
	"cento/canon"
	"cento/command"
	"cento/conflict"
	"cento/diff"
	"cento/frame"
	"cento/merge"
	"cento/pack"
	"cento/patch"
	"cento/sample"
	"cento/session"
	"cento/text"
	"cento/tree"
	"cento/word"
)

// do does a line, and tells its error, or what is told, as bytes.
func do(t *testing.T, s *session.Session, line string) ([]byte, api.Errno) {
	t.Helper()
	c, err := command.Parse(line)
	if err != api.OK {
		t.Fatalf("%q is no command", line)
	}
	return s.Do(c)
}

// run does lines in a new session, each of which is followed by what is to be told: =text, =#hex, ! and an error's number, or nothing.
func run(t *testing.T, lines ...string) *session.Session {
	t.Helper()
	s := session.New()
	for _, l := range lines {
		line, want, _ := strings.Cut(l, " => ")
		before := state(s)
		b, err := do(t, s, line)
		got := string(b)
		if strings.HasPrefix(want, "#") {
			got = "#" + command.Hex(b)
		}
		if err != api.OK {
			got = "!" + strconv.Itoa(int(err))
			if len(b) != 0 || state(s) != before {
				t.Errorf("%s: an error changes something", line)
			}
		}
		if got != want {
			t.Errorf("%s: %q, not %q", line, got, want)
		}
	}
	return s
}

// state tells all messages, and the limits.
func state(s *session.Session) string {
	out := strconv.Itoa(s.Now().Depth) + " " + strconv.Itoa(s.Now().Weight) + " " + strconv.Itoa(s.Now().MaxD) + " " + strconv.Itoa(s.Now().MaxOut)
	for _, i := range s.Slots().Full() {
		l, _ := s.Slots().Get(i)
		out += " " + strconv.Itoa(i) + ":" + command.Hex(word.Flat(l))
	}
	return out
}

// 36.1
func TestNewAndLimits(t *testing.T) {
	s := session.New()
	if s.Now() != (api.Limits{Depth: 20, Weight: 2000, MaxD: 4096, MaxOut: 131072}) || len(s.Slots().Full()) != 0 {
		t.Errorf("%s", state(s))
	}
	for _, c := range [][2]api.Limits{
		{{}, {}},
		{{Depth: 1, Weight: 2, MaxD: 3, MaxOut: 4}, {Depth: 1, Weight: 2, MaxD: 3, MaxOut: 4}},
		{{Depth: 20, Weight: 2000, MaxD: 4096, MaxOut: 131072}, {Depth: 20, Weight: 2000, MaxD: 4096, MaxOut: 131072}},
		{{Depth: 21, Weight: 2001, MaxD: 4097, MaxOut: 131073}, {Depth: 20, Weight: 2000, MaxD: 4096, MaxOut: 131072}},
		{{Depth: math.MaxInt, Weight: math.MaxInt, MaxD: -1, MaxOut: math.MinInt}, {Depth: 20, Weight: 2000}},
		{{Depth: -1, Weight: -1}, {}},
	} {
		if got := session.Limits(c[0]); got != c[1] {
			t.Errorf("Limits(%+v): %+v", c[0], got)
		}
	}
	s = run(t, "limits 1 2 3 4")
	if s.Now() != (api.Limits{Depth: 1, Weight: 2, MaxD: 3, MaxOut: 4}) {
		t.Errorf("%+v", s.Now())
	}
	s = run(t, "limits 1000 1073741824 5000 200000")
	if s.Now() != (api.Limits{Depth: 20, Weight: 2000, MaxD: 4096, MaxOut: 131072}) {
		t.Errorf("%+v", s.Now())
	}
}

// 36.1
func TestSlotsAreATwin(t *testing.T) {
	s := run(t, "text 3 {5}")
	twin := s.Slots()
	if l, err := twin.Get(3); err != api.OK || !slices.Equal(l, []uint64{0x0000000100000000, 5}) {
		t.Errorf("%x, %d", l, err)
	}
	if err := twin.Drop(3); err != api.OK || !s.Slots().Has(3) {
		t.Error("what becomes of the Twin is something to the session")
	}
}

// 36.2
func TestTextShowDropDumpPack(t *testing.T) {
	run(t,
		"text 0 {1,0|_}", "show 0 => {1}", "show 1 => !15", "text 15 y[1,2,3,4,5,6,7,8,9]", "show 15 => y[1,2,3,4,5,6,7,8,9]", "text 0 _", "show 0 => _",
		"text 16 {1} => !15", "text 1073741824 {1} => !15", "text 1 {01} => !11", "text 1 {1}} => !11", "text 16 {01} => !15",
		"drop 0", "drop 0 => !15", "show 0 => !15", "drop 16 => !15", "drop 15", "show 15 => !15",
		"text 2 {7}", "dump 2 => #000000000200000000000000010000000700000000000000", "pack 2 => #1002"+"1001"+"0107",
		"dump 3 => !15", "pack 3 => !15", "dump 16 => !15", "pack 16 => !15", "show 16 => !15",
		"text 4 _", "dump 4 => #00000000010000000000000000000000", "pack 4 => #10010000",
	)
}

// 36.2
func TestLoadAndUnpack(t *testing.T) {
	run(t,
		"load 0 000000000200000000000000010000000700000000000000", "show 0 => {7}",
		// What is trimmed, and where its parts lie, is no matter.
		"load 1 0000000003000000000000000200000007000000000000000000000000000000", "show 1 => {7}", "dump 1 => #000000000200000000000000010000000700000000000000",
		"load 2 01000000010000000200000000000000"+"0200000001000000"+"0000000001000000"+"0800000000000000", "show 2 => {8}",
		"load 3 - => !4", "load 3 00000000 => !4", "load 3 10000000 => !3", "load 3 01000000000000000000000001000000 => !5", "load 3 0000000000000000ff => !6",
		"load 3 0000000000000000 => !7", "load 3 00000000010000000300000000000000 => !9", "load 3 0000000001000000fcffffff00000100 => !3", "load 16 - => !15",
		"unpack 4 10021001"+"0107", "show 4 => {7}", "unpack 5 - => !4", "unpack 5 01 => !4", "unpack 5 00 => !4", "unpack 5 0000 => !7", "unpack 16 01 => !15",
	)
	s := session.New()
	// 131072 words may be unpacked; one more may not.
	b := pack.Pack(make([]uint64, 131072))
	if _, err := s.Do(command.Command{Op: command.Unpack, Args: []int{0}, Bytes: b}); err != api.ErrRest && err != api.ErrLimit && err != api.ErrBounds {
		t.Errorf("131072 words: %d", err)
	}
	b = pack.Pack(make([]uint64, 131073))
	if _, err := s.Do(command.Command{Op: command.Unpack, Args: []int{0}, Bytes: b}); err != api.ErrLimit {
		t.Errorf("131073 words: %d", err)
	}
}

// 36.2
func TestLimitsHold(t *testing.T) {
	deep := func(n int) string { return strings.Repeat("{|", n) + "_" + strings.Repeat("}", n) }
	voids := func(n int) string { return "v[" + strings.Repeat("0,", n-1) + "0]" }
	run(t,
		"text 0 "+deep(20), "text 1 "+deep(21)+" => !3", "text 0 "+voids(1999), "text 1 "+voids(2000)+" => !3",
		// What a message weighs is asked as it comes.
		"limits 20 3 4096 131072", "load 1 0000000003000000000000000200000007000000000000000000000000000000", "limits 20 2 4096 131072", "load 1 0000000003000000000000000200000007000000000000000000000000000000 => !3", "text 1 {7,0,0}",
		"limits 1 2000 4096 131072", "text 2 {|{}} => !3", "text 2 {5}", "limits 20 2000 4096 1", "text 2 {5} => !3", "text 2 {}", "load 2 000000000200000000000000010000000700000000000000 => !3",
		"limits 20 2000 4096 2", "load 2 000000000200000000000000010000000700000000000000",
		"limits 0 0 0 0", "text 3 _ => !3", "show 2 => {7}", "dump 2 => #000000000200000000000000010000000700000000000000", "diff 4 2 2 => !3", "apply 4 2 2 => !12", "limits 0 0 0 1", "text 3 _", "diff 4 3 3", "show 4 => _",
	)
	run(t,
		"text 7 {2|c[{100000001,1,2}]}", "text 0 {1}", "text 1 {2}", "limits 20 2000 4096 2", "diff 2 0 1 => !3", "limits 20 2000 4096 8", "diff 2 0 1", "limits 20 1 4096 100", "diff 3 0 1 => !3", "apply 3 2 0 => !3", "merge 4 5 0 0 0 => !3",
		// A patch is within limits of its own.
		"limits 0 0 0 100", "invert 4 2", "normal 5 2", "compose 6 2 4", "limits 20 2000 4096 1", "invert 4 2 => !3", "normal 5 2 => !3", "compose 6 2 4 => !3", "rebase 6 7 2 7 => !3", "rebase 6 7 2 2",
	)
	// The limit of a diff: lists that are farther from each other are not held against each other.
	run(t,
		"text 0 y[1,2,3]", "text 1 y[1,9,3]", "diff 2 0 1", "show 2 => {403|c[{100},{1|y[2]},{2|y[9]},{100}]}", "limits 20 2000 2 131072", "diff 2 0 1", "show 2 => {403|c[{100},{1|y[2]},{2|y[9]},{100}]}",
		"limits 20 2000 1 131072", "diff 2 0 1", "show 2 => {403|c[{1|y[1,2,3]},{2|y[1,9,3]}]}",
	)
}

// 36.2
func TestDiffAndApply(t *testing.T) {
	run(t,
		"text 0 {5}", "text 1 {6}", "diff 2 0 1", "apply 3 2 0", "show 3 => {6}", "show 2 => {2|c[{100000000,5,6}]}", "diff 0 0 0", "show 0 => _", "show 1 => {6}",
		"diff 4 0 9 => !15", "diff 4 9 0 => !15", "diff 16 0 1 => !15", "diff 0 16 1 => !15", "diff 0 1 16 => !15",
		"apply 4 2 9 => !15", "apply 4 9 1 => !15", "apply 4 1 1 => !12", "apply 4 2 1 => !13", "apply 16 2 1 => !15",
		// The patch is asked ahead of the message.
		"apply 4 1 9 => !12", "text 5 y[1]", "apply 4 2 5 => !13", "apply 5 0 5", "show 5 => y[1]",
	)
}

// 36.2
func TestInvertNormalCompose(t *testing.T) {
	run(t,
		"text 0 {5}", "text 1 {6}", "text 2 {7}", "diff 3 0 1", "diff 4 1 2", "compose 5 3 4", "apply 6 5 0", "show 6 => {7}", "compose 7 4 3 => !14", "compose 7 3 9 => !15", "compose 7 9 3 => !15", "compose 7 0 9 => !12", "compose 7 3 0 => !12", "compose 16 3 4 => !15",
		"invert 7 5", "apply 8 7 2", "show 8 => {5}", "invert 7 9 => !15", "invert 7 1 => !12", "invert 16 5 => !15", "normal 7 9 => !15", "normal 7 1 => !12", "normal 7 16 => !15",
		"text 10 {403|c[{2|y[1]},{1|y[2]},{100},{200}]}", "normal 11 10", "show 11 => {403|c[{1|y[2]},{2|y[1]},{300}]}", "invert 11 10", "show 11 => {403|c[{1|y[1]},{2|y[2]},{300}]}",
	)
}

// 36.2
func TestRebase(t *testing.T) {
	run(t,
		"text 0 {1,1}", "text 1 {2,1}", "text 2 {1,3}", "text 3 {5,1}", "diff 4 0 1", "diff 5 0 2", "diff 6 0 3", "diff 7 3 0",
		"rebase 8 9 4 5", "apply 10 5 0", "apply 10 8 10", "show 10 => {2,3}", "apply 10 4 0", "apply 10 9 10", "show 10 => {2,3}",
		"rebase 8 9 4 6 => !13", "rebase 8 9 4 7 => !14", "rebase 8 9 4 0 => !12", "rebase 8 9 0 15 => !12", "rebase 8 9 15 4 => !15", "rebase 8 9 4 15 => !15", "rebase 16 9 4 5 => !15", "rebase 8 16 4 5 => !15",
		// Of two that go into one slot, the second one is there.
		"rebase 8 8 4 5", "show 8 => {2|c[{100000001,1,3}]}",
	)
}

// 36.2
func TestMerge(t *testing.T) {
	run(t,
		"text 0 {1,1}", "text 1 {2,1}", "text 2 {1,3}", "merge 3 4 0 1 2", "show 3 => {2,3}", "show 4 => c[]", "text 2 {3,3}", "merge 3 4 0 1 2", "show 3 => {1,3}", "show 4 => c[{|e[1],{1},{2},{3}}]",
		"merge 3 4 9 1 2 => !15", "merge 3 4 0 9 2 => !15", "merge 3 4 0 1 9 => !15", "merge 16 4 0 1 2 => !15", "merge 3 16 0 1 2 => !15", "merge 5 5 0 1 2", "show 5 => c[{|e[1],{1},{2},{3}}]",
		"limits 20 2000 4096 3", "merge 3 4 0 1 2 => !3", "merge 3 4 0 0 0", "limits 20 2000 4096 2", "merge 3 4 0 0 0 => !3",
	)
}

// 36.2
func TestRefused(t *testing.T) {
	s := run(t, "text 0 {1}")
	for _, c := range []command.Command{{}, {Op: -1}, {Op: 15, Args: []int{0}}, {Op: command.Show}, {Op: command.Show, Args: []int{-1}}, {Op: command.Text, Args: []int{0}}, {Op: command.Text, Args: []int{99}, Bytes: []byte(" ")}, {Op: command.SetLimits, Args: []int{1, 2, 3}}, {Op: command.Drop, Args: []int{0}, Bytes: []byte("x")}} {
		before := state(s)
		if b, err := s.Do(c); err != api.ErrCommand || len(b) != 0 || state(s) != before {
			t.Errorf("%+v: %s, %d", c, b, err)
		}
	}
	var none *session.Session
	for _, c := range []command.Command{{}, {Op: command.Show, Args: []int{0}}, {Op: command.SetLimits, Args: []int{1, 2, 3, 4}}} {
		if b, err := none.Do(c); err != api.ErrNil || len(b) != 0 {
			t.Errorf("a nil one, %+v: %s, %d", c, b, err)
		}
	}
	if none.Now() != (api.Limits{}) || none.Slots() != nil {
		t.Error("a nil one has something")
	}
}

// put puts a tree's words into a slot, through a stream.
func put(t *testing.T, s *session.Session, at int, x api.Tree, size int) {
	t.Helper()
	a, ok := build.Build(x, size, api.MaxOut)
	if !ok {
		t.Fatal("there is no room")
	}
	b, ok := frame.Frame(a.Segments())
	if !ok {
		t.Fatal("no stream")
	}
	if _, err := s.Do(command.Command{Op: command.Load, Args: []int{at}, Bytes: b}); err != api.OK {
		t.Fatalf("load of %s: %d", text.Print(x), err)
	}
}

// same holds what is in a slot against the words of a tree.
func same(t *testing.T, s *session.Session, at int, x api.Tree) {
	t.Helper()
	want, _ := canon.Encode(x, api.MaxOut)
	if l, err := s.Slots().Get(at); err != api.OK || !slices.Equal(l, want) {
		t.Fatalf("slot %d: %x, %d, not %s", at, l, err, text.Print(x))
	}
}

func all(t *testing.T, s *session.Session, lines ...string) {
	t.Helper()
	for _, l := range lines {
		if _, err := do(t, s, l); err != api.OK {
			t.Fatalf("%s: %d", l, err)
		}
	}
}

// T5, T6, 36.3
func TestStreamsAndCommands(t *testing.T) {
	for seed := range 600 {
		s := sample.From(seed)
		x := s.Tree(4)
		y := s.Like(x, 4)
		z := s.Like(x, 4)
		one := session.New()
		put(t, one, 0, x, 1+seed%7)
		put(t, one, 1, y, 1000)
		put(t, one, 2, z, 2)
		for i, c := range []string{"dump", "pack"} {
			b, err := do(t, one, c+" 0")
			if err != api.OK {
				t.Fatalf("%s: %d", c, err)
			}
			if _, err := one.Do(command.Command{Op: command.Load + i, Args: []int{3}, Bytes: b}); err != api.OK {
				t.Fatalf("%s, and back: %d", c, err)
			}
			same(t, one, 3, x)
		}
		all(t, one, "diff 4 0 1", "apply 5 4 0", "invert 6 4", "apply 7 6 1", "merge 8 9 0 0 1", "merge 10 11 0 1 2")
		same(t, one, 5, y)
		same(t, one, 7, x)
		same(t, one, 8, y)
		same(t, one, 9, api.Tree{Kind: api.Composite})
		merged, conflicts := merge.Trees(x, y, z, api.MaxEdits)
		same(t, one, 10, merged)
		same(t, one, 11, conflict.Tree(conflicts))
		same(t, one, 4, patch.Tree(diff.Trees(x, y, api.MaxEdits)))
		l, _ := one.Slots().Get(4)
		if len(l) > session.Factor*(tree.Weight(tree.Norm(x))+tree.Weight(tree.Norm(y)))+session.Factor {
			t.Fatalf("from %s to %s: %d words", text.Print(x), text.Print(y), len(l))
		}
	}
}
