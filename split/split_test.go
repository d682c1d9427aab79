package split_test

import (
	"slices"
	"testing"

	"cento/api"
	"cento/apply"
	"cento/edit"
	"cento/etext"
	"cento/normal"
	"cento/sample"
	"cento/split"
	"cento/text"
)

// Short forms of what the tests are written with.
var ed = sample.EditOf

func eds(l []string) []api.Edit {
	var out []api.Edit
	for _, s := range l {
		out = append(out, ed(s))
	}
	return out
}

func texts(l []api.Edit) []string {
	var out []string
	for _, e := range l {
		out = append(out, etext.Print(e))
	}
	return out
}

// 41.1
func TestParts(t *testing.T) {
	for _, c := range []struct {
		e    string
		want []string
	}{
		{"=", nil},
		{"({1,0}>_)", []string{"({1}>_)"}},
		{"s{|}", []string{"s{|}"}},
		{"ly[]", []string{"ly[]"}},
		{"ly[k1,k2]", []string{"ly[k3]"}},
		{"lc[*s{|},k1]", []string{"lc[k2]"}},
		{"s{0:1:1:2,5:3:1:2|}", []string{"s{0:1:1:2|}", "s{5:3:1:2|}"}},
		{"s{0:1:1:2|0:(_>_),3:s{0:1:1:2,1:1:1:2|},4:s{|},5:ly[k1]}", []string{"s{0:1:1:2|}", "s{|0:(_>_)}", "s{|3:s{0:1:1:2|}}", "s{|3:s{1:1:1:2|}}", "s{|4:s{|}}", "s{|5:ly[k1]}"}},
		{"ly[-y[1],k1,+y[2]]", []string{"ly[-y[1],k1]", "ly[k1,+y[2]]"}},
		{"ly[+y[2],-y[1]]", []string{"ly[-y[1]]", "ly[+y[2]]"}},
		{"ly[-y[1,2],+y[3,4,5],k2,-y[6]]", []string{"ly[-y[1,2],k3]", "ly[+y[3,4,5],k3]", "ly[k5,-y[6]]"}},
		{"lp[k1,*s{0:1:1:2,1:1:1:2|},-p[_],+p[_,_],*(_>{}),k3]", []string{"lp[k1,*s{0:1:1:2|},k5]", "lp[k1,*s{1:1:1:2|},k5]", "lp[k2,-p[_],k4]", "lp[k2,+p[_,_],k4]", "lp[k4,*(_>{}),k3]"}},
		{"lp[*s{|},*ly[k1],*ly[+y[1],k1,+y[2]]]", []string{"lp[*s{|},k2]", "lp[k1,*ly[k1],k1]", "lp[k2,*ly[+y[1],k1]]", "lp[k2,*ly[k2,+y[2]]]"}},
		{"lc[*s{|2:lc[-c[{}],+c[{1}]]},*({}>{1})]", []string{"lc[*s{|2:lc[-c[{}]]},k1]", "lc[*s{|2:lc[+c[{1}]]},k1]", "lc[k1,*({}>{1})]"}},
	} {
		if got := texts(split.Parts(ed(c.e))); !slices.Equal(got, c.want) {
			t.Errorf("%s: %v, not %v", c.e, got, c.want)
		}
	}
}

// 41.2
func TestJoin(t *testing.T) {
	for _, c := range []struct {
		l    []string
		want string
	}{
		{nil, "="},
		{[]string{"="}, "="},
		{[]string{"ly[+y[2],-y[1]]"}, "ly[-y[1],+y[2]]"},
		{[]string{"ly[-y[1],k1]", "ly[k1,+y[2]]"}, "ly[-y[1],k1,+y[2]]"},
		{[]string{"s{0:1:1:2|}", "=", "s{0:1:2:3|}", "s{1:1:0:1|}"}, "s{0:1:1:3,1:1:0:1|}"},
		{[]string{"(_>{1})", "s{0:1:1:2|}", "({2}>{3,0})"}, "(_>{3})"},
		{[]string{"lc[*s{|},k1]"}, "lc[k2]"},
	} {
		if got, ok := split.Join(eds(c.l)); !ok || etext.Print(got) != c.want {
			t.Errorf("%v: %s, %v, not %s", c.l, etext.Print(got), ok, c.want)
		}
	}
	for _, l := range [][]string{{"s{0:1:1:2|}", "s{0:1:1:2|}"}, {"(_>{1})", "s{0:1:1:2|}", "s{0:1:1:2|}"}, {"s{|}", "ly[]", "="}, {"ly[k1]", "ly[k2]"}} {
		if got, ok := split.Join(eds(l)); ok || !edit.Equal(got, api.Edit{}) {
			t.Errorf("%v: %s", l, etext.Print(got))
		}
	}
}

// 41.3
func TestManyEdits(t *testing.T) {
	most := 0
	for seed := range 3000 {
		s := sample.From(seed)
		x := s.Tree(4)
		e := s.Edit(x, 4)
		l := split.Parts(e)
		most = max(most, len(l))
		joined, ok := split.Join(l)
		if !ok || !edit.Right(joined) || !edit.Equal(joined, normal.Edit(joined)) {
			t.Fatalf("%s: %v are joined to %s, %v", etext.Print(e), texts(l), etext.Print(joined), ok)
		}
		for _, part := range l {
			if !edit.Right(part) || etext.Print(normal.Edit(part)) != etext.Print(part) {
				t.Fatalf("%s: the part %s", etext.Print(e), etext.Print(part))
			}
		}
		for _, y := range []api.Tree{x, s.Like(x, 4), s.Like(x, 4)} {
			want, ok := apply.Edit(e, y)
			got, also := y, true
			for _, part := range l {
				if also {
					got, also = apply.Edit(part, got)
				}
			}
			if len(l) == 0 {
				got = want
			}
			byOne, one := apply.Edit(joined, y)
			if ok != also || ok != one || ok && (text.Print(got) != text.Print(want) || text.Print(byOne) != text.Print(want)) {
				t.Fatalf("%s by %s: %s, %v; by its parts %v: %s, %v; joined %s: %s, %v", text.Print(y), etext.Print(e), text.Print(want), ok, texts(l), text.Print(got), also, etext.Print(joined), text.Print(byOne), one)
			}
		}
	}
	if most < 8 {
		t.Errorf("no more than %d parts", most)
	}
}
