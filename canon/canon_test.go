package canon_test

import (
	"math"
	"slices"
	"strings"
	"testing"

	"cento/api"
	"cento/canon"
	"cento/sample"
	"cento/text"
	"cento/tree"
)

// Short forms of what the tests are written with.
var parse = sample.TreeOf

var most = api.Limits{Depth: api.MaxDepth, Weight: api.MaxWeight}

// words are texts of trees, and their words.
var words = map[string][]uint64{
	"_":                           {0},
	"{}":                          {0xfffffffc},
	"{5}":                         {0x0000000100000000, 5},
	"{5|p[_]}":                    {0x0001000100000000, 5, 0x0000000e00000001, 0},
	"{0,5|_,{}}":                  {0x0002000200000000, 0, 5, 0, 0xfffffffc},
	"{|{1},{2}}":                  {0x0002000000000000, 0x0000000100000004, 0x0000000100000004, 1, 2},
	"{|{1|{2}},{3}}":              {0x0002000000000000, 0x0001000100000004, 0x000000010000000c, 1, 0x0000000100000000, 2, 3},
	"v[0,0,0]":                    {0x0000001800000001},
	"b[1,0,1]":                    {0x0000001900000001, 5},
	"y[]":                         {0x0000000200000001},
	"y[1,2,3,4,5,6,7,8,9]":        {0x0000004a00000001, 0x0807060504030201, 9},
	"t[1,2]":                      {0x0000001300000001, 0x20001},
	"f[1,2,3]":                    {0x0000001c00000001, 0x200000001, 3},
	"e[7]":                        {0x0000000d00000001, 7},
	"p[]":                         {0x0000000600000001},
	"p[_,_]":                      {0x0000001600000001, 0, 0},
	"p[y[1],{2},_,y[]]":           {0x0000002600000001, 0x0000000a0000000d, 0x000000010000000c, 0, 0x0000000200000009, 1, 2},
	"c[]":                         {0x0000000700000001, 0},
	"c[{},{}]":                    {0x0000000700000001, 0x0000000000000008},
	"c[{1},{},{2,3}]":             {0x0000003700000001, 0x000000020000000c, 1, 0, 0, 0, 2, 3},
	"c[{1},{|y[1],y[2]},{|y[3]}]": {0x0000004f00000001, 0x000200010000000c, 1, 0, 0, 0, 0x0000000a00000011, 0x0000000a00000011, 0, 0x0000000a0000000d, 0, 1, 2, 3},
	"{|v[0],p[]}":                 {0x0002000000000000, 0x0000000800000005, 0x0000000600000001},
}

// 12.1, 12.2
func TestEncodeAndDecode(t *testing.T) {
	for s, want := range words {
		x := parse(s)
		l, ok := canon.Encode(x, len(want))
		if !ok || !slices.Equal(l, want) {
			t.Errorf("%s: %x, %v", s, l, ok)
		}
		if len(want) != 1+tree.Size(x) {
			t.Errorf("%s: %d words, Size is %d", s, len(want), tree.Size(x))
		}
		if l, ok := canon.Encode(x, len(want)-1); ok || len(l) != 0 {
			t.Errorf("%s: %x, of one word less", s, l)
		}
		got, err := canon.Decode(want, most)
		if err != api.OK || text.Print(got) != s {
			t.Errorf("%s is decoded as %s, %d", s, text.Print(got), err)
		}
	}
}

// 12.1, 12.2
func TestTreesThatMeanTheSame(t *testing.T) {
	for _, c := range [][]string{
		{"{5}", "{5,0}", "{5|_}", "{5,0,0|_,_}"},
		{"{}", "{0}", "{|_}"},
		{"c[{1},{}]", "c[{1,0},{0|_}]", "c[{1},{0,0,0}]"},
		{"{1|{2}}", "{1|{2,0},_}"},
		{"p[{},_]", "p[{0},_]"},
	} {
		want, _ := canon.Encode(parse(c[0]), api.MaxOut)
		for _, s := range c {
			l, ok := canon.Encode(parse(s), api.MaxOut)
			if !ok || !slices.Equal(l, want) {
				t.Errorf("%s: %x, %v, not %x", s, l, ok, want)
			}
			got, err := canon.Decode(l, most)
			if err != api.OK || text.Print(got) != c[0] {
				t.Errorf("%s is decoded as %s, %d", s, text.Print(got), err)
			}
		}
	}
	for a, l := range words {
		for b, m := range words {
			if a != b && slices.Equal(l, m) {
				t.Errorf("%s and %s have the same words", a, b)
			}
		}
	}
}

// 12.1
func TestEncodeRefuses(t *testing.T) {
	atom := api.Tree{Kind: api.Atom, Words: []uint64{1}}
	for name, x := range map[string]api.Tree{
		"an atom":                atom,
		"an atom in a struct":    {Kind: api.Struct, Kids: []api.Tree{atom}},
		"no kind":                {Kind: 11},
		"a list of too much":     {Kind: api.Bit, Kids: []api.Tree{{Kind: api.Atom, Words: []uint64{2}}}},
		"no structs":             {Kind: api.Composite, Kids: []api.Tree{{}}},
		"nothing with something": {Words: []uint64{1}},
	} {
		if l, ok := canon.Encode(x, api.MaxOut); ok || len(l) != 0 {
			t.Errorf("%s: %x", name, l)
		}
	}
	deep := api.Tree{}
	for range 65 {
		deep = api.Tree{Kind: api.Struct, Kids: []api.Tree{deep}}
	}
	if _, ok := canon.Encode(deep, api.MaxOut); ok {
		t.Error("65 structs within one another")
	}
	for _, n := range []int{0, -1, math.MinInt} {
		if l, ok := canon.Encode(api.Tree{}, n); ok || len(l) != 0 {
			t.Errorf("nothing, of %d words at the most: %x", n, l)
		}
	}
}

// 12.1
func TestEncodeAtTheLimit(t *testing.T) {
	ones := func(n int) api.Tree {
		l := make([]uint64, n)
		for i := range l {
			l[i] = 1
		}
		return api.Tree{Kind: api.Struct, Words: l}
	}
	// A word for the pointer, two for the kids' pointers, 65535 of the one, and what is left of the other one.
	x := api.Tree{Kind: api.Pointers, Kids: []api.Tree{ones(65535), ones(131072 - 3 - 65535)}}
	if l, ok := canon.Encode(x, math.MaxInt); !ok || len(l) != api.MaxOut {
		t.Errorf("131072 words: %d, %v", len(l), ok)
	}
	x.Kids[1] = ones(131072 - 3 - 65535 + 1)
	if l, ok := canon.Encode(x, math.MaxInt); ok || len(l) != 0 {
		t.Errorf("131073 words: %d, %v", len(l), ok)
	}
	// Few trees of structs take many words.
	wide := api.Tree{Kind: api.Composite, Kids: make([]api.Tree, 1<<20-1)}
	for i := range wide.Kids {
		wide.Kids[i].Kind = api.Struct
	}
	wide.Kids[5] = ones(65535)
	if l, ok := canon.Encode(wide, math.MaxInt); ok || len(l) != 0 {
		t.Errorf("a list of a great frame: %d, %v", len(l), ok)
	}
}

// 12.1
func TestDecodeRefuses(t *testing.T) {
	for _, c := range []struct {
		name string
		l    []uint64
		x    api.Limits
		want api.Errno
	}{
		{"no words", nil, most, api.ErrBounds},
		{"something else", []uint64{3}, most, api.ErrCap},
		{"a tag", []uint64{0x0000000700000001, 1}, most, api.ErrPtr},
		{"too heavy", []uint64{0x0000000100000000, 5}, api.Limits{Depth: 1, Weight: 1}, api.ErrLimit},
		{"too deep", []uint64{0x0000000100000000, 5}, api.Limits{Depth: 0, Weight: 9}, api.ErrLimit},
		{"a word is left", []uint64{0, 0}, most, api.ErrForm},
		{"a word behind", []uint64{0x0000000100000000, 5, 0}, most, api.ErrForm},
		{"a word of 0 at the end", []uint64{0x0000000200000000, 5, 0}, most, api.ErrForm},
		{"a kid that is nothing at the end", []uint64{0x0001000100000000, 5, 0}, most, api.ErrForm},
		{"a struct of nothing elsewhere", []uint64{0x0001000000000000, 0xfffffff8}, most, api.ErrForm},
		{"kids the other way round", []uint64{0x0002000000000000, 0x0000000100000008, 0x0000000100000000, 2, 1}, most, api.ErrForm},
		{"two of one", []uint64{0x0002000000000000, 0x0000000100000004, 0x0000000100000000, 1}, most, api.ErrForm},
		{"a gap", []uint64{0x0000000100000004, 0, 5}, most, api.ErrForm},
		{"a bit behind the last byte", []uint64{0x0000000a00000001, 0x101}, most, api.ErrForm},
		{"a count that is too great", []uint64{0x0000000f00000001, 4, 0}, most, api.ErrForm},
		{"a frame of no structs", []uint64{0x0000000700000001, 0x0000000100000000}, most, api.ErrForm},
		{"a frame that is too great", []uint64{0x0000001700000001, 0x0000000200000004, 1, 0}, most, api.ErrForm},
		{"a far pointer", []uint64{0x000000000000000a, 0x0000000100000000, 5}, most, api.ErrForm},
	} {
		if x, err := canon.Decode(c.l, c.x); err != c.want || !sample.Nothing(x) {
			t.Errorf("%s: %s, %d, not %d", c.name, text.Print(x), err, c.want)
		}
	}
}

// 12.1: within the greatest limits there is nothing that is told again otherwise.
func TestDeepAndHeavy(t *testing.T) {
	for _, s := range []string{
		strings.Repeat("{|", 63) + "{7}" + strings.Repeat("}", 63),
		"v[" + strings.Repeat("0,", 65534) + "0]",
		"p[" + strings.Repeat("_,", 65534) + "_]",
		"c[" + strings.Repeat("{},", 65534) + "{}]",
	} {
		l, ok := canon.Encode(parse(s), api.MaxOut)
		if !ok {
			t.Fatalf("%.20s: no words", s)
		}
		if x, err := canon.Decode(l, most); err != api.OK || text.Print(x) != s {
			t.Errorf("%.20s is decoded otherwise: %d", s, err)
		}
	}
}
