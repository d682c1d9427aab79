package word_test

import (
	"math"
	"slices"
	"testing"

	"cento/word"
)

var someWords = []uint64{0, 1, 0xff, 0x0102030405060708, 0x8000000000000000, 0x00ff00ff00ff00ff, math.MaxUint64, 0xdeadbeef00c0ffee}

// 1.1, 1.4
func TestBytesAndOf(t *testing.T) {
	if b := word.Bytes(0x0807060504030201); b != [8]byte{1, 2, 3, 4, 5, 6, 7, 8} {
		t.Errorf("Bytes: %v", b)
	}
	if w := word.Of([8]byte{0xff, 0, 0, 0, 0, 0, 0, 0x80}); w != 0x80000000000000ff {
		t.Errorf("Of: %x", w)
	}
	for _, w := range someWords {
		if word.Of(word.Bytes(w)) != w {
			t.Errorf("%x is not told again by its bytes", w)
		}
	}
}

// 1.1, 1.4
func TestFlatAndWords(t *testing.T) {
	if b := word.Flat([]uint64{1, 0x0200000000000000}); !slices.Equal(b, []byte{1, 0, 0, 0, 0, 0, 0, 0, 0, 0, 0, 0, 0, 0, 0, 2}) {
		t.Errorf("Flat: %v", b)
	}
	if b := word.Flat(nil); len(b) != 0 {
		t.Errorf("Flat of none: %v", b)
	}
	if l, ok := word.Words(nil); !ok || len(l) != 0 {
		t.Errorf("Words of none: %v %v", l, ok)
	}
	if l, ok := word.Words(word.Flat(someWords)); !ok || !slices.Equal(l, someWords) {
		t.Errorf("Words of Flat: %x %v", l, ok)
	}
	for _, n := range []int{1, 7, 9, 15, 17} {
		if l, ok := word.Words(make([]byte, n)); ok || len(l) != 0 {
			t.Errorf("Words of %d bytes: %v %v", n, l, ok)
		}
	}
}

// 1.2, 1.4
func TestMasks(t *testing.T) {
	for mask, want := range map[byte]uint64{0: 0, 1: 0xff, 5: 0xff00ff, 0x80: 0xff00000000000000, 0xff: math.MaxUint64} {
		if w := word.Wide(mask); w != want {
			t.Errorf("Wide(%x): %x", mask, w)
		}
	}
	if m := word.Unlike(0x0102, 0x0103); m != 1 {
		t.Errorf("Unlike: %x", m)
	}
	if m := word.Unlike(0x0110000000000000, 0); m != 0xc0 {
		t.Errorf("Unlike of high bytes: %x", m)
	}
	if w := word.Mix(0x1111111111111111, 0x2222222222222222, 0x81); w != 0x2211111111111122 {
		t.Errorf("Mix: %x", w)
	}
	for _, a := range someWords {
		for _, b := range someWords {
			mask := word.Unlike(a, b)
			if word.Mix(a, b, mask) != b || word.Mix(b, a, mask) != a || word.Mix(a, b, 0) != a || word.Mix(a, b, 0xff) != b {
				t.Errorf("%x and %x are mixed otherwise", a, b)
			}
			if (a^b)&word.Wide(^mask) != 0 {
				t.Errorf("%x and %x are unlike beyond %x", a, b, mask)
			}
		}
	}
}

// 1.3
func TestWidthAndFits(t *testing.T) {
	for code, want := range []int{0, 1, 8, 16, 32, 64} {
		if n, ok := word.Width(code); n != want || !ok {
			t.Errorf("Width(%d): %d %v", code, n, ok)
		}
		most := uint64(1)<<want - 1
		if !word.Fits(code, 0) || !word.Fits(code, most) {
			t.Errorf("Fits(%d) refuses what fits", code)
		}
		if want < 64 && (word.Fits(code, most+1) || word.Fits(code, math.MaxUint64)) {
			t.Errorf("Fits(%d) takes what does not fit", code)
		}
	}
	for _, code := range []int{-1, 6, 7, math.MinInt, math.MaxInt} {
		if n, ok := word.Width(code); n != 0 || ok {
			t.Errorf("Width(%d): %d %v", code, n, ok)
		}
		if word.Fits(code, 0) {
			t.Errorf("Fits(%d, 0)", code)
		}
	}
}

// 1.3
func TestRoom(t *testing.T) {
	for _, c := range []struct{ code, n, want int }{
		{0, 0, 0}, {0, 1 << 40, 0}, {1, 0, 0}, {1, 1, 1}, {1, 64, 1}, {1, 65, 2}, {2, 8, 1}, {2, 9, 2}, {3, 4, 1}, {3, 5, 2},
		{4, 2, 1}, {4, 3, 2}, {5, 3, 3}, {5, 1 << 40, 1 << 40}, {5, 1<<40 + 1, 0}, {1, 1<<40 + 1, 0}, {5, math.MaxInt, 0},
		{5, -1, 0}, {1, math.MinInt, 0}, {6, 5, 0}, {-1, 5, 0},
	} {
		if n := word.Room(c.code, c.n); n != c.want {
			t.Errorf("Room(%d, %d): %d, not %d", c.code, c.n, n, c.want)
		}
	}
}

// 1.3
func TestGet(t *testing.T) {
	l := []uint64{0x0807060504030201, 0x8000000000000009}
	for _, c := range []struct {
		code, i int
		want    uint64
	}{
		{1, 0, 1}, {1, 1, 0}, {1, 9, 1}, {1, 127, 1}, {1, 128, 0}, {2, 7, 8}, {2, 8, 9}, {2, 15, 0x80}, {2, 16, 0},
		{3, 1, 0x0403}, {3, 7, 0x8000}, {3, 8, 0}, {4, 1, 0x08070605}, {4, 3, 0x80000000}, {4, 4, 0},
		{5, 0, 0x0807060504030201}, {5, 1, 0x8000000000000009}, {5, 2, 0},
		{0, 0, 0}, {-1, 0, 0}, {6, 0, 0}, {2, -1, 0}, {1, math.MinInt, 0}, {1, math.MaxInt, 0}, {5, math.MaxInt, 0}, {5, 1 << 58, 0}, {4, 1 << 59, 0},
	} {
		if n := word.Get(l, c.code, c.i); n != c.want {
			t.Errorf("Get(%d, %d): %x, not %x", c.code, c.i, n, c.want)
		}
	}
	if n := word.Get(nil, 5, 0); n != 0 {
		t.Errorf("Get of none: %x", n)
	}
	// What lies behind the length is not read.
	if n := word.Get(l[:1], 5, 1); n != 0 {
		t.Errorf("Get behind the end: %x", n)
	}
}

// 1.3, 1.4
func TestPut(t *testing.T) {
	if l, ok := word.Put(1, []uint64{1, 0, 1}); !ok || !slices.Equal(l, []uint64{5}) {
		t.Errorf("Put of bits: %x %v", l, ok)
	}
	if l, ok := word.Put(3, []uint64{1, 2, 3, 4, 0xffff}); !ok || !slices.Equal(l, []uint64{0x0004000300020001, 0xffff}) {
		t.Errorf("Put of twos: %x %v", l, ok)
	}
	if l, ok := word.Put(0, make([]uint64, 5)); !ok || len(l) != 0 {
		t.Errorf("Put of nothings: %x %v", l, ok)
	}
	if l, ok := word.Put(5, nil); !ok || len(l) != 0 {
		t.Errorf("Put of none: %x %v", l, ok)
	}
	for _, c := range []struct {
		code    int
		numbers []uint64
	}{{0, []uint64{0, 1}}, {1, []uint64{0, 2}}, {2, []uint64{256}}, {3, []uint64{1 << 16, 1}}, {4, []uint64{1, 1 << 32}}, {-1, nil}, {6, nil}, {6, []uint64{0}}} {
		if l, ok := word.Put(c.code, c.numbers); ok || len(l) != 0 {
			t.Errorf("Put(%d, %v): %x %v", c.code, c.numbers, l, ok)
		}
	}
}

// 1.4
func TestWhatIsPutIsGot(t *testing.T) {
	for code := range 6 {
		width, _ := word.Width(code)
		for n := range 140 {
			numbers := make([]uint64, n)
			for i := range numbers {
				numbers[i] = uint64(i+1) * 0x9e3779b97f4a7c15 & (1<<width - 1)
			}
			l, ok := word.Put(code, numbers)
			if !ok || len(l) != word.Room(code, n) {
				t.Fatalf("Put(%d) of %d numbers: %d words, %v", code, n, len(l), ok)
			}
			for i, want := range numbers {
				if word.Get(l, code, i) != want {
					t.Fatalf("Get(%d, %d) of %d numbers: %x, not %x", code, i, n, word.Get(l, code, i), want)
				}
			}
		}
	}
}

// R4
func TestNothingIsShared(t *testing.T) {
	numbers := []uint64{1, 2}
	l, _ := word.Put(5, numbers)
	l[0] = 9
	if numbers[0] != 1 {
		t.Error("Put shares what it was given")
	}
}
