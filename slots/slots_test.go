package slots_test

import (
	"math"
	"slices"
	"testing"

	"cento/api"
	"cento/slots"
)

type messages = [][]uint64

var noSlots = []int{-1, 16, 17, math.MaxInt, math.MinInt}

func has(t *testing.T, s *slots.Slots, i int, want ...uint64) {
	t.Helper()
	if l, err := s.Get(i); err != api.OK || !slices.Equal(l, want) || !s.Has(i) {
		t.Errorf("slot %d: %v, %d, not %v", i, l, err, want)
	}
}

func hasNot(t *testing.T, s *slots.Slots, i int) {
	t.Helper()
	if l, err := s.Get(i); err != api.ErrSlot || len(l) != 0 || s.Has(i) {
		t.Errorf("slot %d: %v, %d", i, l, err)
	}
	if err := s.Drop(i); err != api.ErrSlot {
		t.Errorf("Drop(%d): %d", i, err)
	}
}

func full(t *testing.T, s *slots.Slots, want ...int) {
	t.Helper()
	if l := s.Full(); !slices.Equal(l, want) {
		t.Errorf("Full: %v, not %v", l, want)
	}
}

func put(t *testing.T, s *slots.Slots, at []int, l messages, want api.Errno) {
	t.Helper()
	if err := s.Put(at, l); err != want {
		t.Errorf("Put(%v, %v): %d, not %d", at, l, err, want)
	}
}

// 35.1
func TestPutAndGet(t *testing.T) {
	s := slots.New()
	full(t, s)
	for i := range 16 {
		hasNot(t, s, i)
	}
	for _, i := range noSlots {
		hasNot(t, s, i)
	}
	put(t, s, []int{3}, messages{{7, 8}}, api.OK)
	full(t, s, 3)
	has(t, s, 3, 7, 8)
	hasNot(t, s, 2)
	put(t, s, []int{15, 0}, messages{{1}, {}}, api.OK)
	full(t, s, 0, 3, 15)
	has(t, s, 0)
	has(t, s, 15, 1)
	put(t, s, nil, nil, api.OK)
	put(t, s, []int{5, 5}, messages{{1}, {2}}, api.OK)
	has(t, s, 5, 2)
	put(t, s, []int{3}, messages{nil}, api.OK)
	has(t, s, 3)
	full(t, s, 0, 3, 5, 15)
}

// 35.1
func TestPutRefuses(t *testing.T) {
	s := slots.New()
	put(t, s, []int{1}, messages{{5}}, api.OK)
	for _, i := range noSlots {
		put(t, s, []int{1, i}, messages{{6}, {7}}, api.ErrSlot)
		put(t, s, []int{i, 1}, messages{{6}, {7}}, api.ErrSlot)
		put(t, s, []int{i}, nil, api.ErrArg)
	}
	put(t, s, []int{1, 2}, messages{{6}}, api.ErrArg)
	put(t, s, []int{1}, messages{{6}, {7}}, api.ErrArg)
	put(t, s, nil, messages{{6}}, api.ErrArg)
	put(t, s, []int{1}, nil, api.ErrArg)
	full(t, s, 1)
	has(t, s, 1, 5)
}

// 35.1
func TestDrop(t *testing.T) {
	s := slots.New()
	put(t, s, []int{1, 2}, messages{{5}, {6}}, api.OK)
	if err := s.Drop(1); err != api.OK {
		t.Errorf("Drop: %d", err)
	}
	hasNot(t, s, 1)
	has(t, s, 2, 6)
	full(t, s, 2)
}

// 35.1
func TestTwin(t *testing.T) {
	s := slots.New()
	put(t, s, []int{1, 2}, messages{{5}, {6}}, api.OK)
	twin := s.Twin()
	full(t, twin, 1, 2)
	has(t, twin, 1, 5)
	put(t, s, []int{1, 3}, messages{{7}, {8}}, api.OK)
	put(t, twin, []int{2}, messages{{9}}, api.OK)
	if err := twin.Drop(1); err != api.OK {
		t.Errorf("Drop: %d", err)
	}
	full(t, s, 1, 2, 3)
	has(t, s, 1, 7)
	has(t, s, 2, 6)
	full(t, twin, 2)
	has(t, twin, 2, 9)
}

// 35.1, R1
func TestNil(t *testing.T) {
	var s *slots.Slots
	full(t, s)
	hasNot(t, s, 0)
	put(t, s, []int{0}, messages{{1}}, api.ErrSlot)
	put(t, s, []int{0}, nil, api.ErrArg)
	put(t, s, nil, nil, api.OK)
	if s.Twin() != nil {
		t.Error("a nil one's Twin is something")
	}
}

// R4
func TestNothingIsShared(t *testing.T) {
	s := slots.New()
	given := []uint64{1, 2}
	put(t, s, []int{0, 1}, messages{given, given}, api.OK)
	given[0] = 9
	got, _ := s.Get(0)
	got[1] = 9
	other, _ := s.Twin().Get(1)
	other[1] = 9
	has(t, s, 0, 1, 2)
	has(t, s, 1, 1, 2)
}
