// Package word is layer 1: see shared/doc/01-word.md.
package word

// mostNumbers is how many numbers Room tells words of.
const mostNumbers = 1 << 40

// Bytes tells a word's bytes, the lowest one first.
func Bytes(w uint64) [8]byte {
	var b [8]byte
	for i := range 8 {
		b[i] = byte(w >> (8 * i))
	}
	return b
}

// Of tells the word of eight bytes.
func Of(b [8]byte) uint64 {
	var w uint64
	for i := range 8 {
		w |= uint64(b[i]) << (8 * i)
	}
	return w
}

// Flat tells the bytes of words.
func Flat(l []uint64) []byte {
	out := make([]byte, 0, 8*len(l))
	for _, w := range l {
		b := Bytes(w)
		out = append(out, b[:]...)
	}
	return out
}

// Words tells the words of bytes; false: the last one is not whole.
func Words(b []byte) ([]uint64, bool) {
	if len(b)%8 != 0 {
		return nil, false
	}
	out := make([]uint64, len(b)/8)
	for i := range out {
		var one [8]byte
		copy(one[:], b[8*i:])
		out[i] = Of(one)
	}
	return out, true
}

// Wide tells a mask of bytes as one of bits.
func Wide(mask byte) uint64 {
	var w uint64
	for i := range 8 {
		if mask>>i&1 == 1 {
			w |= 0xff << (8 * i)
		}
	}
	return w
}

// Unlike tells the mask of the bytes in which two words are unlike.
func Unlike(a, b uint64) byte {
	var mask byte
	for i, x := range Bytes(a ^ b) {
		if x != 0 {
			mask |= 1 << i
		}
	}
	return mask
}

// Mix tells a word whose bytes are those of another one, where a mask says so.
func Mix(a, b uint64, mask byte) uint64 {
	wide := Wide(mask)
	return a&^wide | b&wide
}

// Width tells how many bits each number of a code has.
func Width(code int) (int, bool) {
	widths := [6]int{0, 1, 8, 16, 32, 64}
	if code < 0 || code >= len(widths) {
		return 0, false
	}
	return widths[code], true
}

// Fits tells whether a number is one of a code.
func Fits(code int, n uint64) bool {
	width, ok := Width(code)
	return ok && n>>width == 0
}

// Room tells how many words so many numbers of a code take.
func Room(code, n int) int {
	width, ok := Width(code)
	if !ok || n < 0 || n > mostNumbers {
		return 0
	}
	return (n*width + 63) / 64
}

// Get tells the i-th number of a code that stands in words; 0: it is not there.
func Get(l []uint64, code, i int) uint64 {
	width, _ := Width(code)
	if width == 0 || i < 0 {
		return 0
	}
	// Held against how many words there are, as i times width may be more than an int holds.
	each := 64 / width
	if i/each >= len(l) {
		return 0
	}
	return l[i/each] >> (i % each * width) & (1<<width - 1)
}

// Put tells words in which numbers of a code stand, one behind the other; false: one does not fit.
func Put(code int, numbers []uint64) ([]uint64, bool) {
	width, ok := Width(code)
	for _, n := range numbers {
		ok = ok && Fits(code, n)
	}
	if !ok {
		return nil, false
	}
	out := make([]uint64, Room(code, len(numbers)))
	if width == 0 {
		return out, true
	}
	each := 64 / width
	for i, n := range numbers {
		out[i/each] |= n << (i % each * width)
	}
	return out, true
}
