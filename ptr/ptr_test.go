package ptr_test

import (
	"math"
	"testing"

	"cento/ptr"
)

const (
	leastOff = -1 << 29
	mostOff  = 1<<29 - 1
)

// 4.1, 4.3
func TestDecodeAndEncode(t *testing.T) {
	for _, c := range []struct {
		w uint64
		p ptr.Ptr
	}{
		{0, ptr.Ptr{}},
		{0x0000000100000000, ptr.Ptr{Kind: ptr.Struct, Data: 1}},
		{0xfffffffc, ptr.Ptr{Kind: ptr.Struct, Off: -1}},
		{0x0001000000000000, ptr.Ptr{Kind: ptr.Struct, Ptrs: 1}},
		{0xffffffff00000000, ptr.Ptr{Kind: ptr.Struct, Data: 65535, Ptrs: 65535}},
		{0x000300027ffffffc, ptr.Ptr{Kind: ptr.Struct, Off: mostOff, Data: 2, Ptrs: 3}},
		{0x80000000, ptr.Ptr{Kind: ptr.Struct, Off: leastOff}},
		{1, ptr.Ptr{Kind: ptr.List}},
		{0x0000000e00000001, ptr.Ptr{Kind: ptr.List, Code: 6, Count: 1}},
		{0xffffffff00000005, ptr.Ptr{Kind: ptr.List, Off: 1, Code: 7, Count: mostOff}},
		{0x0000000a80000001, ptr.Ptr{Kind: ptr.List, Off: leastOff, Code: 2, Count: 1}},
		{0xfffffffd, ptr.Ptr{Kind: ptr.List, Off: -1}},
		{2, ptr.Ptr{Kind: ptr.Far}},
		{0x000000070000002e, ptr.Ptr{Kind: ptr.Far, Off: 5, Segment: 7, Double: true}},
		{0xfffffffffffffffa, ptr.Ptr{Kind: ptr.Far, Off: mostOff, Segment: math.MaxUint32}},
		{3, ptr.Ptr{Kind: ptr.Other}},
		{math.MaxUint64, ptr.Ptr{Kind: ptr.Other}},
	} {
		if p := ptr.Decode(c.w); p != c.p {
			t.Errorf("Decode(%x): %+v", c.w, p)
		}
		w, ok := ptr.Encode(c.p)
		if ok != (c.p.Kind != ptr.Other) || ok && w != c.w {
			t.Errorf("Encode(%+v): %x, %v", c.p, w, ok)
		}
	}
}

// 4.1
func TestEncodeRefuses(t *testing.T) {
	for _, p := range []ptr.Ptr{
		{Kind: 5}, {Kind: -1}, {Kind: ptr.Other},
		{Kind: ptr.Null, Off: 1}, {Kind: ptr.Null, Double: true}, {Kind: ptr.Null, Count: 1},
		{Kind: ptr.Struct}, // its word would be that of nothing
		{Kind: ptr.Struct, Data: 65536}, {Kind: ptr.Struct, Ptrs: 65536}, {Kind: ptr.Struct, Data: -1}, {Kind: ptr.Struct, Ptrs: -1},
		{Kind: ptr.Struct, Off: mostOff + 1}, {Kind: ptr.Struct, Off: leastOff - 1}, {Kind: ptr.Struct, Off: 1 << 32, Data: 1},
		{Kind: ptr.Struct, Data: 1, Code: 1}, {Kind: ptr.Struct, Data: 1, Count: 1}, {Kind: ptr.Struct, Data: 1, Segment: 1}, {Kind: ptr.Struct, Data: 1, Double: true},
		{Kind: ptr.List, Code: 8}, {Kind: ptr.List, Code: -1}, {Kind: ptr.List, Count: 1 << 29}, {Kind: ptr.List, Count: -1},
		{Kind: ptr.List, Off: mostOff + 1}, {Kind: ptr.List, Off: leastOff - 1}, {Kind: ptr.List, Data: 1}, {Kind: ptr.List, Ptrs: 1}, {Kind: ptr.List, Segment: 1}, {Kind: ptr.List, Double: true},
		{Kind: ptr.Far, Off: 1 << 29}, {Kind: ptr.Far, Off: -1}, {Kind: ptr.Far, Segment: 1 << 32}, {Kind: ptr.Far, Segment: -1},
		{Kind: ptr.Far, Data: 1}, {Kind: ptr.Far, Ptrs: 1}, {Kind: ptr.Far, Code: 1}, {Kind: ptr.Far, Count: 1},
		{Kind: ptr.Struct, Data: math.MaxInt, Ptrs: math.MinInt, Off: math.MaxInt},
	} {
		if w, ok := ptr.Encode(p); ok {
			t.Errorf("Encode(%+v): %x", p, w)
		}
	}
}

// 4.2
func TestWords(t *testing.T) {
	for _, c := range []struct {
		p    ptr.Ptr
		want int
	}{
		{ptr.Ptr{Kind: ptr.Struct}, 0},
		{ptr.Ptr{Kind: ptr.Struct, Off: 9, Data: 2, Ptrs: 3}, 5},
		{ptr.Ptr{Kind: ptr.Struct, Data: 65535, Ptrs: 65535}, 131070},
		{ptr.Ptr{Kind: ptr.List, Code: 0, Count: mostOff}, 0},
		{ptr.Ptr{Kind: ptr.List, Code: 1, Count: 0}, 0},
		{ptr.Ptr{Kind: ptr.List, Code: 1, Count: 64}, 1},
		{ptr.Ptr{Kind: ptr.List, Code: 1, Count: 65}, 2},
		{ptr.Ptr{Kind: ptr.List, Code: 2, Count: 9}, 2},
		{ptr.Ptr{Kind: ptr.List, Code: 3, Count: 5}, 2},
		{ptr.Ptr{Kind: ptr.List, Code: 4, Count: 3}, 2},
		{ptr.Ptr{Kind: ptr.List, Code: 5, Count: 3}, 3},
		{ptr.Ptr{Kind: ptr.List, Code: 6, Count: mostOff}, mostOff},
		{ptr.Ptr{Kind: ptr.List, Code: 7, Count: 0}, 1},
		{ptr.Ptr{Kind: ptr.List, Code: 7, Count: mostOff}, mostOff + 1},
	} {
		if n, ok := c.p.Words(); n != c.want || !ok {
			t.Errorf("Words of %+v: %d, %v", c.p, n, ok)
		}
	}
	for _, p := range []ptr.Ptr{
		{}, {Kind: ptr.Far, Off: 3}, {Kind: ptr.Other}, {Kind: 7}, {Kind: -1}, {Kind: ptr.Far, Data: 2, Count: 2},
		{Kind: ptr.List, Code: 8}, {Kind: ptr.List, Code: -1}, {Kind: ptr.List, Code: 2, Count: -1}, {Kind: ptr.List, Code: 0, Count: 1 << 29},
		{Kind: ptr.List, Code: 5, Count: math.MaxInt}, {Kind: ptr.List, Code: math.MaxInt}, {Kind: ptr.List, Code: math.MinInt},
	} {
		if n, ok := p.Words(); n != 0 || ok {
			t.Errorf("Words of %+v: %d, %v", p, n, ok)
		}
	}
}

// 4.3
func TestEachWordIsItsPointers(t *testing.T) {
	w := uint64(1)
	for range 20000 {
		w = w*6364136223846793005 + 1442695040888963407
		for kind := range uint64(3) {
			x := w&^3 | kind
			if got, ok := ptr.Encode(ptr.Decode(x)); !ok || got != x {
				t.Fatalf("%x is told as %x, %v", x, got, ok)
			}
		}
		if p := ptr.Decode(w | 3); p != (ptr.Ptr{Kind: ptr.Other}) {
			t.Fatalf("%x is told as %+v", w|3, p)
		}
	}
}
