package focus_test

import (
	"math"
	"slices"
	"testing"

	"cento/api"
	"cento/apply"
	"cento/edit"
	"cento/etext"
	"cento/focus"
	"cento/normal"
	"cento/path"
	"cento/sample"
	"cento/text"
	"cento/tree"
)

// Short forms of what the tests are written with.
var tr, ed = sample.TreeOf, sample.EditOf

// to tells a path of kids.
func to(at ...int) []api.Step {
	var l []api.Step
	for _, i := range at {
		l = append(l, api.Step{Kind: api.Kid, At: i})
	}
	return l
}

// 40.1
func TestWrap(t *testing.T) {
	for _, c := range []struct {
		t    string
		l    []api.Step
		e    string
		want string
	}{
		{"p[_,{1},_]", to(1), "s{0:1:1:2|}", "lp[k1,*s{0:1:1:2|},k1]"},
		{"p[{1}]", to(0), "s{0:1:1:2|}", "lp[*s{0:1:1:2|}]"},
		{"p[_,{1}]", to(1), "s{0:1:1:2|}", "lp[k1,*s{0:1:1:2|}]"},
		{"{1}", nil, "s{0:1:1:2|}", "s{0:1:1:2|}"},
		{"_", nil, "(_>{1,0})", "(_>{1})"},
		{"{1}", nil, "=", "="},
		{"y[1]", nil, "ly[+y[2],-y[1]]", "ly[-y[1],+y[2]]"},
		{"{|_,{1}}", to(1), "s{0:1:1:2|}", "s{|1:s{0:1:1:2|}}"},
		{"{}", to(3), "(_>{})", "s{|3:(_>{})}"},
		{"{}", to(65534), "(_>{})", "s{|fffe:(_>{})}"},
		{"{}", to(65534), "=", "="},
		{"{|p[_,c[{},{|y[1]}]]}", to(0, 1, 1, 0), "ly[k1,+y[2]]", "s{|0:lp[k1,*lc[k1,*s{|0:ly[k1,+y[2]]}]]}"},
		{"{|p[_,c[{},{|y[1]}]]}", to(0, 1, 1, 0), "=", "="},
		// What is idle keeps all others, and itself.
		{"c[{},{},{}]", to(1), "s{|}", "lc[k3]"},
		{"{|c[{},{}]}", to(0, 1), "s{|}", "s{|0:lc[k2]}"},
		{"p[{},{}]", to(1), "s{|}", "lp[k1,*s{|}]"},
		{"c[{1},{2}]", to(0), "({1}>{3})", "lc[*({1}>{3}),k1]"},
		// It need not be defined there.
		{"p[_]", to(0), "s{|}", "lp[*s{|}]"},
	} {
		got, ok := focus.Wrap(tr(c.t), c.l, ed(c.e))
		if !ok || etext.Print(got) != c.want {
			t.Errorf("%s, %v, %s: %s, %v, not %s", c.t, c.l, c.e, etext.Print(got), ok, c.want)
		}
	}
}

// 40.1
func TestWrapRefuses(t *testing.T) {
	for _, c := range []struct {
		t string
		l []api.Step
		e string
	}{
		{"{1}", to(-1), "="}, {"{1}", to(65535), "="}, {"{1}", to(math.MaxInt), "="}, {"{1}", to(math.MinInt), "="}, {"{1}", []api.Step{{Kind: api.Word}}, "="}, {"{1}", []api.Step{{Kind: api.Gap}}, "="}, {"{1}", []api.Step{{Kind: 3}}, "="},
		{"p[_]", to(1), "="}, {"p[_]", to(-1), "="}, {"p[]", to(0), "="}, {"p[_]", []api.Step{{Kind: api.Gap}}, "="}, {"_", to(0), "="}, {"{}", to(0, 0), "="}, {"p[_]", to(0, 0), "="},
		{"y[1]", to(0), "="}, {"y[1]", to(0), "(_>{})"}, {"y[1]", to(0, 0), "="}, {"{|y[1]}", to(0, 0), "s{|}"},
		{"c[{}]", to(0), "({}>_)"}, {"c[{}]", to(0), "ly[]"}, {"c[{}]", to(0), "(_>{})"}, {"{|c[{}]}", to(0, 0), "({}>y[1])"},
	} {
		if got, ok := focus.Wrap(tr(c.t), c.l, ed(c.e)); ok || !edit.Equal(got, api.Edit{}) {
			t.Errorf("%s, %v, %s: %s", c.t, c.l, c.e, etext.Print(got))
		}
	}
	if _, ok := focus.Wrap(api.Tree{Kind: api.Atom, Words: []uint64{1}}, nil, api.Edit{}); ok {
		t.Error("an atom")
	}
	deep, l := api.Tree{}, to()
	for range 64 {
		deep = api.Tree{Kind: api.Struct, Kids: []api.Tree{deep}}
		l = append(l, to(0)...)
	}
	if _, ok := focus.Wrap(deep, l[:63], ed("s{|}")); !ok {
		t.Error("64 edits within one another are refused")
	}
	if _, ok := focus.Wrap(deep, l, ed("(_>{})")); ok {
		t.Error("65 edits within one another are taken")
	}
	if e, ok := focus.Wrap(deep, l, api.Edit{}); !ok || e.Kind != api.Same {
		t.Error("Same is no more than Same, however deep")
	}
}

// 40.2
func TestNarrow(t *testing.T) {
	for _, c := range []struct {
		e    string
		l    []api.Step
		want string
		at   []api.Step
	}{
		{"=", nil, "=", nil}, {"=", to(3, 0, 70000), "=", to(3, 0, 70000)}, {"(_>{1,0})", nil, "(_>{1})", nil}, {"ly[+y[1],-y[2]]", nil, "ly[-y[2],+y[1]]", nil},
		{"s{0:1:1:2|}", to(5), "=", to(5)}, {"s{|5:s{0:1:1:2|}}", to(5), "s{0:1:1:2|}", to(5)}, {"s{|5:s{0:1:1:2|}}", to(4, 2), "=", to(4, 2)}, {"s{|5:(_>{1,0})}", to(5), "(_>{1})", to(5)},
		{"lp[k3]", to(2), "=", to(2)}, {"lp[k1,+p[_,_],k2]", to(0), "=", to(0)}, {"lp[k1,+p[_,_],k2]", to(1), "=", to(3)}, {"lp[k1,+p[_,_],k2]", to(2, 7), "=", to(4, 7)},
		{"lp[-p[_,_],k2]", to(3), "=", to(1)}, {"lp[+p[_],-p[_],*s{|},k1]", to(1), "s{|}", to(1)}, {"lp[+p[_],-p[_],*s{|},k1]", to(2), "=", to(2)}, {"ly[k1,-y[1],k1]", to(2), "=", to(1)},
		{"s{|2:lp[+p[_],*lc[k1,*s{0:1:1:2|}]]}", to(2, 0, 1), "s{0:1:1:2|}", to(2, 1, 1)}, {"s{|2:lp[+p[_],*lc[k1,*s{0:1:1:2|}]]}", to(2, 0), "lc[k1,*s{0:1:1:2|}]", to(2, 1)},
		{"lp[*ly[k1,k1]]", to(0), "ly[k2]", to(0)}, {"lp[*(_>{})]", to(0), "(_>{})", to(0)},
	} {
		got, at, ok := focus.Narrow(ed(c.e), c.l)
		if !ok || etext.Print(got) != c.want || !slices.Equal(at, c.at) {
			t.Errorf("%s, %v: %s, %v, %v, not %s, %v", c.e, c.l, etext.Print(got), at, ok, c.want, c.at)
		}
	}
	for _, c := range []struct {
		e string
		l []api.Step
	}{
		{"=", to(-1)}, {"=", []api.Step{{Kind: api.Word}}}, {"=", []api.Step{{Kind: api.Gap}}}, {"=", []api.Step{{}, {Kind: 7}}}, {"=", to(math.MinInt)},
		{"(_>{})", to(0)}, {"({}>{})", to(0, 0)}, {"s{|}", to(-1)}, {"s{|}", []api.Step{{Kind: api.Word}}}, {"s{|1:(_>{})}", to(1, 0)},
		{"lp[]", to(0)}, {"lp[k1]", to(1)}, {"lp[k1]", to(math.MaxInt)}, {"lp[k1]", to(-1)}, {"lp[+p[_]]", to(0)}, {"lp[-p[_,_],k1]", to(0)}, {"lp[-p[_,_],k1]", to(1)}, {"lp[-p[_,_],k1]", to(3)}, {"lp[k1]", []api.Step{{Kind: api.Gap}}}, {"lp[*(_>{})]", to(0, 0)}, {"lp[k1,-p[{}]]", to(1, 0)},
	} {
		if got, at, ok := focus.Narrow(ed(c.e), c.l); ok || len(at) != 0 || !edit.Equal(got, api.Edit{}) {
			t.Errorf("%s, %v: %s, %v", c.e, c.l, etext.Print(got), at)
		}
	}
}

// places tells the paths of all kids that are no atoms, and of the tree itself.
func places(x api.Tree, l []api.Step) [][]api.Step {
	if x.Kind == api.Atom {
		return nil
	}
	out := [][]api.Step{slices.Clone(l)}
	for i, k := range x.Kids {
		out = append(out, places(k, append(slices.Clone(l), to(i)...))...)
	}
	return out
}

// 40.3
func TestWhatIsWrappedIsFoundAgain(t *testing.T) {
	wrapped := 0
	for seed := range 1500 {
		s := sample.From(seed)
		x := s.Tree(4)
		for _, l := range places(x, nil) {
			there, ok := path.Get(x, l)
			if !ok {
				t.Fatalf("%s has no %v", text.Print(x), l)
			}
			e := normal.Edit(s.Edit(there, 2))
			w, ok := focus.Wrap(x, l, e)
			if !ok {
				continue
			}
			wrapped++
			if !edit.Right(w) || !edit.Equal(w, normal.Edit(w)) {
				t.Fatalf("%s, %v, %s: %s", text.Print(x), l, etext.Print(e), etext.Print(w))
			}
			if got, at, ok := focus.Narrow(w, l); !ok || !slices.Equal(at, l) || etext.Print(got) != etext.Print(e) && etext.Print(e) != "s{|}" {
				t.Fatalf("%s, %v, %s: %s, %v, %v", text.Print(x), l, etext.Print(e), etext.Print(got), at, ok)
			}
			checkPlaces(t, x, w, l, e)
		}
	}
	if wrapped < 3000 {
		t.Errorf("only %d are wrapped", wrapped)
	}
}

// checkPlaces tells whether by what is wrapped the tree becomes what it should, at the path, and at all others.
func checkPlaces(t *testing.T, x api.Tree, w api.Edit, l []api.Step, e api.Edit) {
	t.Helper()
	y, ok := apply.Edit(w, x)
	if !ok {
		t.Fatalf("%s is not defined on %s", etext.Print(w), text.Print(x))
	}
	for _, m := range places(x, nil) {
		was, _ := path.Get(x, m)
		is, there := path.Get(y, m)
		switch {
		case slices.Equal(m, l):
			if want, _ := apply.Edit(e, was); !tree.Equal(is, want) {
				t.Fatalf("%s by %s: %v is %s, not %s", text.Print(x), etext.Print(w), m, text.Print(is), text.Print(want))
			}
		case len(m) < len(l) && slices.Equal(m, l[:len(m)]), len(m) > len(l) && slices.Equal(m[:len(l)], l):
			// What it is in, or what is in it.
		case !there || !tree.Equal(was, is):
			t.Fatalf("%s by %s: %v was %s, is %s", text.Print(x), etext.Print(w), m, text.Print(was), text.Print(is))
		}
	}
}

// 40.3
func TestWhatStandsAtAPath(t *testing.T) {
	found := 0
	for seed := range 1500 {
		s := sample.From(seed)
		x := s.Tree(4)
		e := s.Edit(x, 4)
		y, _ := apply.Edit(e, x)
		for _, l := range places(x, nil) {
			within, at, ok := focus.Narrow(e, l)
			if !ok {
				continue
			}
			found++
			was, _ := path.Get(x, l)
			want, ok := apply.Edit(within, was)
			is, there := path.Get(y, at)
			if !ok || !there || !tree.Equal(is, want) || !edit.Equal(within, normal.Edit(within)) {
				t.Fatalf("%s by %s: %v is %v, %s, not %s", text.Print(x), etext.Print(e), l, at, text.Print(is), text.Print(want))
			}
		}
	}
	if found < 2000 {
		t.Errorf("only %d are found", found)
	}
}
