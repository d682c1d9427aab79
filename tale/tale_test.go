package tale_test

import (
	"strings"
	"testing"

	"cento/api"
	"cento/bundle"
	"cento/command"
	"cento/etext"
	"cento/sample"
	"cento/tale"
	"cento/text"
	"cento/word"
)

// run does lines, each of which is followed by what is to be told of it.
func run(t *testing.T, lines ...string) {
	t.Helper()
	var s, want []string
	for _, l := range lines {
		line, told, _ := strings.Cut(l, " => ")
		s, want = append(s, line), append(want, told)
	}
	got := strings.Split(tale.Run(strings.Join(s, "\n")), "\n")
	for i, line := range s {
		if i >= len(got) || got[i] != want[i] {
			t.Fatalf("%s: %q, not %q", line, got[min(i, len(got)-1)], want[i])
		}
	}
	if len(got) != len(s)+1 || got[len(s)] != "" {
		t.Errorf("%q is told behind the last line", got[len(s):])
	}
}

// 45.1
func TestRun(t *testing.T) {
	run(t, "tree {1} => ok", "do 0 s{0:1:1:2|} => ok", "sync 0 => ok", "hub => {2} 1")
	run(t,
		"hub => _ 0", "show 0 => _ 0 =", "show 3 => _ 0 =", "do 3 (_>{1,1}) => ok", "show 3 => {1,1} 0 (_>{1,1})", "sync 3 => ok", "show 3 => {1,1} 1 =", "show 2 => _ 0 =", "hub => {1,1} 1",
		"sync 0 => ok", "sync 1 => ok", "do 0 s{0:1:1:2|} => ok", "do 1 s{1:1:1:3|} => ok", "sync 0 => ok", "sync 1 => ok", "show 0 => {2,1} 2 =", "show 1 => {2,3} 3 =", "sync 0 => ok", "show 0 => {2,3} 3 =",
		"do 0 s{0:1:2:4|} => ok", "do 1 s{0:1:2:5|} => ok", "sync 0 => ok", "sync 1 => error 13", "show 1 => {5,3} 3 s{0:1:2:5|}", "reset 1 => ok", "show 1 => {4,3} 4 =",
		"push 4 s{0:1:4:6|} => ok 5", "push 4 s{0:1:4:7|} => error 13", "push 4 s{0:1:5:7|} => error 14", "push 6 = => error 2", "push 5 s{0:1:5:7|} => error 13", "push 4 s{0:1:4:6|} => ok 6", "hub => {6,3} 6",
		"do 2 s{0:1:4:6|} => error 13", "tree y[1] => ok", "hub => y[1] 0", "show 1 => y[1] 0 =", "show 2 => y[1] 0 =",
	)
}

// 45.1
func TestErrors(t *testing.T) {
	run(t,
		"x => error 16", "hub  => error 16", " hub => error 16", "hub\r => error 16", "all  => error 16", "HUB => error 16",
		"tree => error 16", "tree {01} => error 11", "tree 5 => error 11", "tree {1} {1} => error 11", "tree {1} = => error 16",
		"show => error 16", "show 4 => error 16", "show -1 => error 16", "show 00 => error 16", "show +1 => error 16", "show x => error 16", "show  => error 16", "sync 4 => error 16", "reset 4 => error 16", "sync => error 16", "walk 0 => error 16", "hub 0 => error 16", "all 0 => error 16",
		"do 0 => error 16", "do 0 x => error 11", "do 4 x => error 11", "do 4 = => error 16", "do -1 = => error 16", "do 01 = => error 16", "do  = => error 16", "do 0 = = => error 16", "do 0 x x => error 16",
		"push 0 => error 16", "push 0 x => error 11", "push 1048576 = => error 16", "push 1048576 x => error 11", "push 1048575 = => error 2", "push -1 = => error 16", "push 00 = => error 16", "push 99999999999999999999 = => error 16", "push 0 = = => error 16",
		"walk 0 = => error 16", "walk 0 x => error 11", "sync 0 = => error 16", "sync 0 x => error 11", "tree x = => error 16", "tree x x => error 11", "show 0 ly[ => error 11",
		"hub => _ 0",
	)
}

// 45.1
func TestAll(t *testing.T) {
	for _, c := range []struct {
		lines string
		first string
		log   []string
	}{
		{"all", "_", nil},
		{"tree {1,0}\nall", "{1}", nil},
		{"tree {1}\npush 0 s{0:1:1:2|}\npush 0 s{1:1:0:3|}\npush 2 =\nall", "{1}", []string{"s{0:1:1:2|}", "s{1:1:0:3|}", "="}},
		{"push 0 (_>{})\ntree y[1]\ndo 1 ly[+y[2],-y[1]]\nsync 1\nall", "y[1]", []string{"ly[-y[1],+y[2]]"}},
	} {
		got := strings.Split(strings.TrimSuffix(tale.Run(c.lines), "\n"), "\n")
		b, ok := command.Unhex(got[len(got)-1])
		l, whole := word.Words(b)
		if !ok || !whole {
			t.Errorf("%q: %q", c.lines, got)
			continue
		}
		x, err := bundle.Decode(l)
		var log []string
		for _, e := range x.Log {
			log = append(log, etext.Print(e))
		}
		if err != api.OK || text.Print(x.First) != c.first || strings.Join(log, " ") != strings.Join(c.log, " ") {
			t.Errorf("%q: %s, %v, %d", c.lines, text.Print(x.First), log, err)
		}
	}
	// What is deeper, in its bundle, than a message may be has no bytes.
	deep := strings.Repeat("{|", 63) + "{}" + strings.Repeat("}", 63)
	if got := tale.Run("tree " + deep + "\nall"); got != "ok\nerror 3\n" {
		t.Errorf("%q", got)
	}
}

// 45.1
func TestLines(t *testing.T) {
	for _, c := range []struct{ s, want string }{
		{"", ""}, {"\n\n\n", ""}, {"hub", "_ 0\n"}, {"\nhub\n\n\nhub\n", "_ 0\n_ 0\n"},
		{strings.Repeat("hub\n\n", 200), strings.Repeat("_ 0\n", 200)},
		{"tree {}\n" + strings.Repeat("\nhub", 300), "ok\n" + strings.Repeat("{} 0\n", 199)},
	} {
		if got := tale.Run(c.s); got != c.want {
			t.Errorf("%.20q: %d bytes, not %d", c.s, len(got), len(c.want))
		}
	}
}

// 45.2
func TestBeginnings(t *testing.T) {
	for seed := range 100 {
		s := sample.From(seed)
		x := s.Tree(3)
		script, told := "tree "+text.Print(x)+"\n", ""
		for range 30 {
			who := string("0123"[s.Below(4)])
			switch s.Below(6) {
			case 0, 1:
				script += "do " + who + " " + etext.Print(s.Edit(s.Like(x, 3), 3)) + "\n"
			case 2:
				script += "push " + who + " " + etext.Print(s.Edit(x, 3)) + "\n"
			case 3:
				script += "sync " + who + "\n"
			case 4:
				script += "show " + who + "\nhub\n"
			case 5:
				script += "reset " + who + "\nall\n"
			}
			got := tale.Run(script)
			if !strings.HasPrefix(got, told) || strings.Count(got, "\n") != strings.Count(script, "\n") || tale.Run(script) != got {
				t.Fatalf("%q: %q, behind %q", script, got, told)
			}
			told = got
		}
	}
}
