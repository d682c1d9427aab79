package frame_test

import (
	"slices"
	"testing"

	"cento/api"
	"cento/frame"
)

func equal(a, b [][]uint64) bool {
	return slices.EqualFunc(a, b, func(x, y []uint64) bool { return slices.Equal(x, y) })
}

// head tells numbers of four bytes each.
func head(numbers ...uint32) []byte {
	var out []byte
	for _, n := range numbers {
		out = append(out, byte(n), byte(n>>8), byte(n>>16), byte(n>>24))
	}
	return out
}

func join(ls ...[]byte) []byte {
	return slices.Concat(ls...)
}

func segments(count, words int) [][]uint64 {
	var out [][]uint64
	for i := range count {
		s := make([]uint64, words)
		for j := range s {
			s[j] = uint64(i)<<56 | uint64(j)
		}
		out = append(out, s)
	}
	return out
}

// 3.1
func TestFrame(t *testing.T) {
	for _, c := range []struct {
		name     string
		segments [][]uint64
		want     []byte
	}{
		{"example", [][]uint64{{7}}, join(head(0, 1), []byte{7, 0, 0, 0, 0, 0, 0, 0})},
		{"one without words", [][]uint64{nil}, head(0, 0)},
		{"two, and noughts", [][]uint64{{1}, {}}, join(head(1, 1, 0, 0), []byte{1, 0, 0, 0, 0, 0, 0, 0})},
		{"three", [][]uint64{{}, {0x0807060504030201}, {2}}, join(head(2, 0, 1, 1), []byte{1, 2, 3, 4, 5, 6, 7, 8}, []byte{2, 0, 0, 0, 0, 0, 0, 0})},
	} {
		b, ok := frame.Frame(c.segments)
		if !ok || !slices.Equal(b, c.want) {
			t.Errorf("%s: %x, %v", c.name, b, ok)
		}
		l, err := frame.Unframe(c.want)
		if err != api.OK || !equal(l, c.segments) {
			t.Errorf("%s: %x, %d", c.name, l, err)
		}
	}
}

// 3.1
func TestFrameRefuses(t *testing.T) {
	for name, l := range map[string][][]uint64{
		"none":                     nil,
		"17 segments":              segments(17, 1),
		"a segment of 65537 words": {{1}, make([]uint64, 65537)},
	} {
		if b, ok := frame.Frame(l); ok || len(b) != 0 {
			t.Errorf("%s: %d bytes, %v", name, len(b), ok)
		}
	}
}

// 3.1, 3.2
func TestRound(t *testing.T) {
	for count := 1; count <= 16; count++ {
		for words := range 4 {
			l := segments(count, words)
			b, ok := frame.Frame(l)
			if !ok || len(b)%8 != 0 {
				t.Fatalf("%d segments of %d words: %d bytes, %v", count, words, len(b), ok)
			}
			got, err := frame.Unframe(b)
			if err != api.OK || !equal(got, l) {
				t.Errorf("%d segments of %d words: %x, %d", count, words, got, err)
			}
		}
	}
	for _, words := range []int{255, 256, 258, 0x1234} {
		l := segments(2, words)
		b, ok := frame.Frame(l)
		if !ok || !slices.Equal(b[:12], head(1, uint32(words), uint32(words))) {
			t.Errorf("two segments of %d words: %x, %v", words, b[:12], ok)
		}
		if got, err := frame.Unframe(b); err != api.OK || !equal(got, l) {
			t.Errorf("two segments of %d words: %d", words, err)
		}
	}
	big := segments(2, 65536)
	b, ok := frame.Frame(big)
	if !ok {
		t.Fatal("two segments of 65536 words are refused")
	}
	if got, err := frame.Unframe(b); err != api.OK || !equal(got, big) {
		t.Errorf("two segments of 65536 words: %d", err)
	}
}

// 3.1
func TestUnframeRefuses(t *testing.T) {
	word := make([]byte, 8)
	for _, c := range []struct {
		name string
		b    []byte
		want api.Errno
	}{
		{"nothing", nil, api.ErrEnd},
		{"three bytes", []byte{0, 0, 0}, api.ErrEnd},
		{"17 segments", head(16), api.ErrLimit},
		{"as many as can be told", head(0xffffffff, 0, 0, 0), api.ErrLimit},
		{"2^24 segments, and one", head(1 << 24), api.ErrLimit},
		{"257 segments", head(256), api.ErrLimit},
		{"2^24 words", head(0, 1<<24), api.ErrLimit},
		{"no numbers", head(0), api.ErrEnd},
		{"a number is missing", head(2, 0, 0), api.ErrEnd},
		{"the noughts are missing", head(1, 0, 0), api.ErrEnd},
		{"a nought is missing", head(1, 0, 0, 0)[:15], api.ErrEnd},
		{"missing noughts are named ahead of a great segment", head(1, 0, 70000), api.ErrEnd},
		{"65537 words", head(0, 65537), api.ErrLimit},
		{"the greatest number", head(1, 0, 0xffffffff, 0), api.ErrLimit},
		{"a great segment is named ahead of the noughts", head(1, 0, 65537, 1), api.ErrLimit},
		{"a nought is none", head(1, 0, 0, 1), api.ErrForm},
		{"the last nought is none", head(1, 0, 0, 0x80000000), api.ErrForm},
		{"noughts are named ahead of missing words", head(1, 1, 0, 1), api.ErrForm},
		{"words are missing", head(0, 1), api.ErrEnd},
		{"a word is not whole", join(head(0, 1), word[:7]), api.ErrEnd},
		{"a later segment's word is missing", join(head(2, 1, 0, 1), word), api.ErrEnd},
		{"a byte is left", join(head(0, 1), word, word[:1]), api.ErrRest},
		{"a word is left", join(head(0, 0), word), api.ErrRest},
	} {
		if l, err := frame.Unframe(c.b); err != c.want || len(l) != 0 {
			t.Errorf("%s: %d segments, %d, not %d", c.name, len(l), err, c.want)
		}
	}
}

// R4
func TestNothingIsShared(t *testing.T) {
	b, _ := frame.Frame(segments(2, 2))
	behind := append(slices.Clone(b), 1, 2, 3)
	l, err := frame.Unframe(behind[:len(b)])
	if err != api.OK || !equal(l, segments(2, 2)) {
		t.Fatalf("what lies behind the length counts: %d", err)
	}
	_ = append(l[0], 9)
	if !equal(l, segments(2, 2)) {
		t.Error("two segments share memory")
	}
}
