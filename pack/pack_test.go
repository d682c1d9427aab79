package pack_test

import (
	"math"
	"slices"
	"testing"

	"cento/api"
	"cento/pack"
)

// repeat tells a list of n words w.
func repeat(w uint64, n int) []uint64 {
	l := make([]uint64, n)
	for i := range l {
		l[i] = w
	}
	return l
}

func join[T any](ls ...[]T) []T {
	var out []T
	for _, l := range ls {
		out = append(out, l...)
	}
	return out
}

const dense = 0x0807060504030201 // no byte of it is 0

var denseBytes = []byte{1, 2, 3, 4, 5, 6, 7, 8}

// 2.1, 2.2, 2.3
func TestPack(t *testing.T) {
	almost := uint64(0x0007060504030201) // one byte of it is 0
	thin := uint64(0x0000060504030201)   // two bytes of it are 0
	for _, c := range []struct {
		name   string
		words  []uint64
		packed []byte
	}{
		{"none", nil, nil},
		{"example", []uint64{8, 0, 0}, []byte{1, 8, 0, 1}},
		{"one nought", []uint64{0}, []byte{0, 0}},
		{"256 noughts", repeat(0, 256), []byte{0, 255}},
		{"257 noughts", repeat(0, 257), []byte{0, 255, 0, 0}},
		{"bytes apart", []uint64{0x8000000000000001}, []byte{0x81, 1, 0x80}},
		{"full word", []uint64{dense}, join([]byte{0xff}, denseBytes, []byte{0})},
		{"full, and no byte more", []uint64{dense, thin}, join([]byte{0xff}, denseBytes, []byte{0}, []byte{0x3f, 1, 2, 3, 4, 5, 6})},
		{"run has words with one byte of 0", []uint64{dense, almost, dense, 0}, join([]byte{0xff}, denseBytes, []byte{2}, []byte{1, 2, 3, 4, 5, 6, 7, 0}, denseBytes, []byte{0, 0})},
		{"no run behind a word with a byte of 0", []uint64{almost, dense}, join([]byte{0x7f, 1, 2, 3, 4, 5, 6, 7}, []byte{0xff}, denseBytes, []byte{0})},
	} {
		if b := pack.Pack(c.words); !slices.Equal(b, c.packed) {
			t.Errorf("%s: packed as %x", c.name, b)
		}
		if l, err := pack.Unpack(c.packed, len(c.words)); err != api.OK || !slices.Equal(l, c.words) {
			t.Errorf("%s: unpacked as %x, %d", c.name, l, err)
		}
	}
}

// 2.1, 2.3
func TestLongRuns(t *testing.T) {
	for _, n := range []int{255, 256, 257, 512, 513, 1000} {
		for _, w := range []uint64{0, dense, 5} {
			l := repeat(w, n)
			b := pack.Pack(l)
			if got, err := pack.Unpack(b, n); err != api.OK || !slices.Equal(got, l) {
				t.Errorf("%d words %x: unpacked as %d words, %d", n, w, len(got), err)
			}
			if len(b) > 10*n {
				t.Errorf("%d words %x take %d bytes", n, w, len(b))
			}
			if w == 0 && len(b) != 2*((n+255)/256) {
				t.Errorf("%d noughts take %d bytes", n, len(b))
			}
			if w == dense && len(b) != 10*((n+255)/256)+8*(n-(n+255)/256) {
				t.Errorf("%d full words take %d bytes", n, len(b))
			}
		}
	}
}

// 2.2
func TestUnpackTakesAnyRuns(t *testing.T) {
	for _, c := range []struct {
		name   string
		packed []byte
		words  []uint64
	}{
		{"runs that could be one", []byte{0, 0, 0, 1, 0, 0}, repeat(0, 4)},
		{"a byte of 0 that is named", []byte{1, 0}, []uint64{0}},
		{"a full tag with noughts", []byte{0xff, 0, 0, 0, 0, 0, 0, 0, 0, 1, 0, 0, 0, 0, 0, 0, 0, 0}, []uint64{0, 0}},
		{"noughts behind a full word", join([]byte{0xff}, denseBytes, []byte{0, 0, 2}), []uint64{dense, 0, 0, 0}},
	} {
		if l, err := pack.Unpack(c.packed, 100); err != api.OK || !slices.Equal(l, c.words) {
			t.Errorf("%s: %x, %d", c.name, l, err)
		}
	}
}

// 2.2
func TestUnpackRefuses(t *testing.T) {
	fullWord := join([]byte{0xff}, denseBytes)
	for _, c := range []struct {
		name   string
		packed []byte
		most   int
		want   api.Errno
	}{
		{"a word's bytes are missing", []byte{3, 1}, 10, api.ErrEnd},
		{"all bytes are missing", []byte{0x10}, 10, api.ErrEnd},
		{"a later word's bytes are missing", []byte{1, 1, 1}, 10, api.ErrEnd},
		{"missing bytes are named ahead of the limit", []byte{1}, 0, api.ErrEnd},
		{"no word may be", []byte{1, 5}, 0, api.ErrLimit},
		{"less than none may be", []byte{1, 5}, -7, api.ErrLimit},
		{"one more than may be", []byte{1, 5, 1, 6}, 1, api.ErrLimit},
		{"the limit ahead of the run's byte", []byte{1, 5, 0}, 1, api.ErrLimit},
		{"the run's byte is missing", []byte{0}, 1, api.ErrEnd},
		{"a full word's run's byte is missing", fullWord, 1, api.ErrEnd},
		{"a run's words are missing", join(fullWord, []byte{2}, denseBytes), 10, api.ErrEnd},
		{"a run's last byte is missing", join(fullWord, []byte{1}, denseBytes[1:]), 10, api.ErrEnd},
		{"missing words are named ahead of the limit", join(fullWord, []byte{1}), 1, api.ErrEnd},
		{"a run of noughts beyond the limit", []byte{0, 3}, 3, api.ErrLimit},
		{"a run of words beyond the limit", join(fullWord, []byte{1}, denseBytes), 1, api.ErrLimit},
	} {
		if l, err := pack.Unpack(c.packed, c.most); err != c.want || len(l) != 0 {
			t.Errorf("%s: %x, %d, not %d", c.name, l, err, c.want)
		}
	}
	if l, err := pack.Unpack([]byte{0, 2}, 3); err != api.OK || len(l) != 3 {
		t.Errorf("just as many as may be: %x, %d", l, err)
	}
	if l, err := pack.Unpack(nil, math.MinInt); err != api.OK || len(l) != 0 {
		t.Errorf("nothing: %x, %d", l, err)
	}
	if l, err := pack.Unpack([]byte{1, 5}, math.MaxInt); err != api.OK || !slices.Equal(l, []uint64{5}) {
		t.Errorf("no limit: %x, %d", l, err)
	}
}

// R4
func TestWhatIsGivenStays(t *testing.T) {
	behind := []byte{1, 8, 2, 9}
	if _, err := pack.Unpack(behind[:1], 10); err != api.ErrEnd {
		t.Errorf("what lies behind the length is read: %d", err)
	}
	words := []uint64{dense, dense, 0}
	pack.Pack(words)
	if !slices.Equal(words, []uint64{dense, dense, 0}) {
		t.Error("Pack changes what it was given")
	}
}
