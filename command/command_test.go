package command_test

import (
	"math"
	"slices"
	"strings"
	"testing"

	"cento/api"
	"cento/command"
	"cento/sample"
)

type c = command.Command

func equal(a, b c) bool {
	return a.Op == b.Op && slices.Equal(a.Args, b.Args) && slices.Equal(a.Bytes, b.Bytes)
}

// lines are commands that may be, and their lines.
var lines = map[string]c{
	"limits 1 2 3 4":       {Op: command.SetLimits, Args: []int{1, 2, 3, 4}},
	"load 0 -":             {Op: command.Load, Args: []int{0}},
	"load 3 00ff7a":        {Op: command.Load, Args: []int{3}, Bytes: []byte{0, 255, 0x7a}},
	"unpack 15 10":         {Op: command.Unpack, Args: []int{15}, Bytes: []byte{16}},
	"text 2 {1,ff|_,y[2]}": {Op: command.Text, Args: []int{2}, Bytes: []byte("{1,ff|_,y[2]}")},
	"text 0 !~":            {Op: command.Text, Args: []int{0}, Bytes: []byte("!~")},
	"diff 2 0 1":           {Op: command.Diff, Args: []int{2, 0, 1}},
	"apply 1073741824 0 1": {Op: command.Apply, Args: []int{1 << 30, 0, 1}},
	"invert 0 1":           {Op: command.Invert, Args: []int{0, 1}},
	"normal 0 1":           {Op: command.Normal, Args: []int{0, 1}},
	"compose 0 1 2":        {Op: command.Compose, Args: []int{0, 1, 2}},
	"rebase 0 1 2 3":       {Op: command.Rebase, Args: []int{0, 1, 2, 3}},
	"merge 0 1 2 3 4":      {Op: command.Merge, Args: []int{0, 1, 2, 3, 4}},
	"drop 10":              {Op: command.Drop, Args: []int{10}},
	"dump 10":              {Op: command.Dump, Args: []int{10}},
	"pack 10":              {Op: command.Pack, Args: []int{10}},
	"show 10":              {Op: command.Show, Args: []int{10}},
}

// 34.1
func TestLines(t *testing.T) {
	for s, want := range lines {
		if !want.Right() {
			t.Errorf("%s may not be", s)
		}
		if got := command.Print(want); got != s {
			t.Errorf("%s is printed as %s", s, got)
		}
		if got, err := command.Parse(s); err != api.OK || !equal(got, want) {
			t.Errorf("%s is parsed as %+v, %d", s, got, err)
		}
		for _, other := range []string{s + " ", " " + s, s + " 1", s + "\n", strings.Replace(s, " ", "  ", 1), strings.Replace(s, " ", "\t", 1), strings.ToUpper(s[:1]) + s[1:], strings.Fields(s)[0], strings.Join(strings.Fields(s)[1:], " ")} {
			if got, err := command.Parse(other); err != api.ErrCommand || !equal(got, c{}) {
				t.Errorf("%q is parsed as %+v, %d", other, got, err)
			}
		}
	}
}

// 34.1
func TestOrder(t *testing.T) {
	for op, name := range []string{"limits", "load", "unpack", "text", "diff", "apply", "invert", "normal", "compose", "rebase", "merge", "drop", "dump", "pack", "show"} {
		found := 0
		for s, want := range lines {
			if strings.HasPrefix(s, name+" ") {
				found++
				if want.Op != op {
					t.Errorf("%s is %d, not %d", name, want.Op, op)
				}
			}
		}
		if found == 0 {
			t.Errorf("no line of %s", name)
		}
	}
}

// 34.1
func TestRight(t *testing.T) {
	for _, x := range []c{
		{}, {Op: -1}, {Op: 15}, {Op: math.MaxInt}, {Op: math.MinInt}, {Op: 15, Args: []int{1}},
		{Op: command.SetLimits, Args: []int{1, 2, 3}}, {Op: command.SetLimits, Args: []int{1, 2, 3, 4, 5}}, {Op: command.SetLimits, Args: []int{1, 2, 3, 4}, Bytes: []byte("x")},
		{Op: command.Show}, {Op: command.Show, Args: []int{-1}}, {Op: command.Show, Args: []int{1<<30 + 1}}, {Op: command.Show, Args: []int{math.MaxInt}}, {Op: command.Show, Args: []int{1, 2}}, {Op: command.Show, Args: []int{1}, Bytes: []byte("x")},
		{Op: command.Diff, Args: []int{1, 2}}, {Op: command.Rebase, Args: []int{1, 2, 3}}, {Op: command.Merge, Args: []int{1, 2, 3, 4}}, {Op: command.Merge, Args: []int{1, 2, 3, 4, -5}},
		{Op: command.Load}, {Op: command.Load, Args: []int{1, 2}, Bytes: []byte("x")}, {Op: command.Unpack, Bytes: []byte("x")},
		{Op: command.Text, Args: []int{1}}, {Op: command.Text, Args: []int{1}, Bytes: []byte{}}, {Op: command.Text, Args: []int{1}, Bytes: []byte("a b")}, {Op: command.Text, Args: []int{1}, Bytes: []byte{32}}, {Op: command.Text, Args: []int{1}, Bytes: []byte{'a', 127}}, {Op: command.Text, Args: []int{1}, Bytes: []byte{200}}, {Op: command.Text, Args: []int{1}, Bytes: []byte{10}}, {Op: command.Text, Args: []int{1}, Bytes: []byte{0}},
	} {
		if x.Right() {
			t.Errorf("%+v may be", x)
		}
		if s := command.Print(x); s != "" {
			t.Errorf("%+v is printed as %q", x, s)
		}
	}
	for _, x := range []c{
		{Op: command.Show, Args: []int{0}, Bytes: []byte{}}, {Op: command.Show, Args: []int{1 << 30}}, {Op: command.Load, Args: []int{0}, Bytes: []byte{0, 10, 32, 200}}, {Op: command.Text, Args: []int{0}, Bytes: []byte{33, 126}},
	} {
		if !x.Right() {
			t.Errorf("%+v may not be", x)
		}
	}
}

// 34.1
func TestParseRefuses(t *testing.T) {
	for _, s := range []string{
		"", " ", "x", "limits", "show", "show ", "show x", "show -1", "show 01", "show 00", "show +1", "show 1.0", "show 1_0", "show 0x1", "show 1073741825", "show 99999999999999999999", "show 1 2", "show 1\r",
		"load 0", "load 0 ", "load 0 0", "load 0 000", "load 0 0G", "load 0 FF", "load 0 --", "load 0 -0", "load -", "load 0 00 00", "load x 00", "unpack 0 zz",
		"text 0", "text 0 ", "text 0 a b", "text 0 a\x7f", "text 0 \xc3\xa9", "text 0 a\tb", "text {1}", "diff 1 2", "diff 1 2 3 4", "merge 1 2 3 4", "shows 1", "sho 1",
	} {
		if got, err := command.Parse(s); err != api.ErrCommand || !equal(got, c{}) {
			t.Errorf("%q is parsed as %+v, %d", s, got, err)
		}
	}
}

// 34.2
func TestHex(t *testing.T) {
	for s, b := range map[string][]byte{"-": nil, "00": {0}, "0a": {10}, "f0": {240}, "0123456789abcdef": {0x01, 0x23, 0x45, 0x67, 0x89, 0xab, 0xcd, 0xef}} {
		if got := command.Hex(b); got != s {
			t.Errorf("Hex(%v): %s", b, got)
		}
		if got, ok := command.Unhex(s); !ok || !slices.Equal(got, b) {
			t.Errorf("Unhex(%s): %v, %v", s, got, ok)
		}
	}
	if got := command.Hex([]byte{}); got != "-" {
		t.Errorf("Hex of an empty list: %s", got)
	}
	for _, s := range []string{"", "0", "000", "0g", "g0", "AB", "--", "-0", "0-", " 00", "00 ", "0x00", "é"} {
		if got, ok := command.Unhex(s); ok || len(got) != 0 {
			t.Errorf("Unhex(%q): %v", s, got)
		}
	}
	for seed := range 300 {
		s := sample.From(seed)
		var b []byte
		for range s.Below(20) {
			b = append(b, byte(s.Below(256)))
		}
		if got, ok := command.Unhex(command.Hex(b)); !ok || !slices.Equal(got, b) {
			t.Fatalf("%v is told again as %v", b, got)
		}
	}
}

// R4
func TestNothingIsShared(t *testing.T) {
	x := c{Op: command.Load, Args: []int{1, 2}[:1], Bytes: []byte{5}}
	command.Print(x)
	if !equal(x, c{Op: command.Load, Args: []int{1}, Bytes: []byte{5}}) || x.Args[:2][1] != 2 {
		t.Errorf("%+v", x)
	}
}
