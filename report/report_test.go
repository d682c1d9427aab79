package report_test

import (
	"strings"
	"testing"

	"cento/report"
	"cento/sample"
)

// 37.1
func TestRun(t *testing.T) {
	for _, c := range []struct{ script, want string }{
		{"", ""},
		{"\n\n", ""},
		{"text 0 {1}\nshow 0\nshow 1", "ok\nok {1}\nerror 15\n"},
		{"text 0 {1}\nshow 0\n", "ok\nok {1}\n"},
		{"\n\ntext 0 {1}\n\n\nshow 0\n\n", "ok\nok {1}\n"},
		{"text 0 {1}\ntext 1 {2}\ndiff 2 0 1\napply 3 2 0\nshow 3", "ok\nok\nok\nok\nok {2}\n"},
		{"text 0 {7}\ndump 0\npack 0\ndrop 0\ndump 0", "ok\nok 000000000200000000000000010000000700000000000000\nok 1002" + "10010107\nok\nerror 15\n"},
		{"load 0 000000000200000000000000010000000700000000000000\nshow 0", "ok\nok {7}\n"},
		{"nonsense\n \nshow 0 \nshow 0\r\nshow", "error 16\nerror 16\nerror 16\nerror 16\nerror 16\n"},
		{"text 0 {01}\nload 0 00\nlimits 0 0 0 0\ntext 0 {}\nunpack 0 -", "error 11\nerror 4\nok\nerror 3\nerror 4\n"},
		{"text 0 {5}\ntext 1 {6}\napply 2 0 1\ndiff 2 0 1\napply 3 2 1\ncompose 3 2 2", "ok\nok\nerror 12\nok\nerror 13\nerror 14\n"},
	} {
		if got := report.Run(c.script); got != c.want {
			t.Errorf("%q: %q, not %q", c.script, got, c.want)
		}
	}
}

// 37.1: only the first 1000 lines that are not empty are done.
func TestMaxLines(t *testing.T) {
	if got, want := report.Run(strings.Repeat("show 0\n\n", 1000)), strings.Repeat("error 15\n", 1000); got != want {
		t.Errorf("1000 lines: %d bytes, not %d", len(got), len(want))
	}
	if got, want := report.Run("text 0 {}\n"+strings.Repeat("\nshow 0", 1000)), "ok\n"+strings.Repeat("ok {}\n", 999); got != want {
		t.Errorf("1001 lines: %d bytes, not %d", len(got), len(want))
	}
}

// 37.2
func TestBeginnings(t *testing.T) {
	lines := []string{"text 0 {1,2|y[5],p[_,{3}]}", "text 1 {1,4|y[5,6],p[{3}]}", "text 2 {2,2|y[7]}", "diff 3 0 1", "diff 4 0 2", "apply 5 3 0", "invert 6 3", "normal 7 3", "compose 8 3 6", "rebase 9 10 3 4", "merge 11 12 0 1 2", "show 11", "show 12", "dump 5", "pack 5", "drop 5", "limits 3 40 9 50", "show 3", "load 1 00", "x"}
	for seed := range 100 {
		s := sample.From(seed)
		script, told := "", ""
		for range 30 {
			script += lines[s.Below(len(lines))] + "\n"
			got := report.Run(script)
			if !strings.HasPrefix(got, told) || strings.Count(got, "\n") != strings.Count(script, "\n") {
				t.Fatalf("%q: %q, behind %q", script, got, told)
			}
			if again := report.Run(script); again != got {
				t.Fatalf("%q: %q, then %q", script, got, again)
			}
			told = got
		}
	}
}
