package session

import (
	"cento/api"
	"cento/arena"
	"cento/canon"
	"cento/command"
	"cento/compose"
	"cento/conflict"
	"cento/copy"
	"cento/frame"
	"cento/inapply"
	"cento/indiff"
	"cento/invert"
	"cento/merge"
	"cento/normal"
	"cento/pack"
	"cento/patch"
	"cento/reader"
	"cento/rebase"
	"cento/text"
	"cento/unfold"
	"cento/valid"
	"cento/word"
)

// step is a command in its session: the numbers of slots, and bytes.
type step struct {
	*Session
	args  []int
	bytes []byte
}

func (s step) do(op int) ([]byte, api.Errno) {
	switch op {
	case command.Load:
		return nil, s.load(s.bytes)
	case command.Unpack:
		return nil, s.unpack()
	case command.Text:
		return nil, s.text()
	case command.Diff:
		return nil, s.diff()
	case command.Apply:
		return nil, s.apply()
	case command.Invert:
		return nil, s.rewrite(invert.Edit)
	case command.Normal:
		return nil, s.rewrite(normal.Edit)
	case command.Compose:
		return nil, s.compose()
	case command.Rebase:
		return nil, s.rebase()
	case command.Merge:
		return nil, s.merge()
	case command.Drop:
		return nil, s.slots.Drop(s.args[0])
	case command.Dump:
		return s.dump()
	case command.Pack:
		return s.pack()
	}
	return s.show()
}

func (s step) load(b []byte) api.Errno {
	segments, err := frame.Unframe(b)
	if err != api.OK {
		return err
	}
	r, err := s.within(segments)
	if err != api.OK {
		return err
	}
	l, err := copy.Words(r, s.limits.MaxOut)
	if err != api.OK {
		return err
	}
	return s.put(l)
}

func (s step) unpack() api.Errno {
	l, err := pack.Unpack(s.bytes, api.MaxOut)
	if err != api.OK {
		return err
	}
	return s.load(word.Flat(l))
}

func (s step) text() api.Errno {
	t, err := text.Parse(string(s.bytes))
	if err != api.OK {
		return err
	}
	return s.putTree(t)
}

func (s step) diff() api.Errno {
	a, err := s.message(s.args[1])
	if err != api.OK {
		return err
	}
	b, err := s.message(s.args[2])
	if err != api.OK {
		return err
	}
	e, err := indiff.Values(a, b, s.limits.MaxD)
	if err != api.OK {
		return err
	}
	return s.putEdits(e)
}

func (s step) apply() api.Errno {
	e, err := s.patch(s.args[1])
	if err != api.OK {
		return err
	}
	r, err := s.message(s.args[2])
	if err != api.OK {
		return err
	}
	t, err := inapply.Edit(e, r)
	if err != api.OK {
		return err
	}
	return s.putTree(t)
}

// rewrite puts what becomes of one patch.
func (s step) rewrite(become func(api.Edit) api.Edit) api.Errno {
	e, err := s.patch(s.args[1])
	if err != api.OK {
		return err
	}
	return s.putEdits(become(e))
}

func (s step) compose() api.Errno {
	p, q, err := s.patches(s.args[1], s.args[2])
	if err != api.OK {
		return err
	}
	e, ok := compose.Edit(p, q)
	if !ok {
		return api.ErrIncompatible
	}
	return s.putEdits(e)
}

func (s step) rebase() api.Errno {
	p, q, err := s.patches(s.args[2], s.args[3])
	if err != api.OK {
		return err
	}
	p, q, err = rebase.Edits(p, q)
	if err != api.OK {
		return err
	}
	return s.putEdits(p, q)
}

func (s step) merge() api.Errno {
	var trees [3]api.Tree
	for i := range trees {
		r, err := s.message(s.args[2+i])
		if err != api.OK {
			return err
		}
		trees[i], err = unfold.Value(r)
		if err != api.OK {
			return err
		}
	}
	t, conflicts := merge.Trees(trees[0], trees[1], trees[2], s.limits.MaxD)
	merged, err := s.ofTree(t, s.limits)
	if err != api.OK {
		return err
	}
	told, err := s.ofTree(conflict.Tree(conflicts), greatest())
	if err != api.OK {
		return err
	}
	return s.put(merged, told)
}

func (s step) dump() ([]byte, api.Errno) {
	l, err := s.slots.Get(s.args[0])
	if err != api.OK {
		return nil, err
	}
	b, ok := frame.Frame([][]uint64{l})
	if !ok {
		return nil, api.ErrLimit
	}
	return b, api.OK
}

func (s step) pack() ([]byte, api.Errno) {
	b, err := s.dump()
	if err != api.OK {
		return nil, err
	}
	l, _ := word.Words(b)
	return pack.Pack(l), api.OK
}

func (s step) show() ([]byte, api.Errno) {
	l, err := s.slots.Get(s.args[0])
	if err != api.OK {
		return nil, err
	}
	t, err := unfold.Message(arena.Of([][]uint64{l}), greatest())
	if err != api.OK {
		return nil, err
	}
	return []byte(text.Print(t)), api.OK
}

// greatest tells the limits of patches, and of conflicts, and so of all that may be in a slot.
func greatest() api.Limits { return api.Limits{Depth: api.MaxDepth, Weight: api.MaxWeight} }

// within tells the value of segments that are within the limits.
func (s step) within(segments [][]uint64) (reader.Ref, api.Errno) {
	a := arena.Of(segments)
	if _, err := valid.Check(a, s.limits); err != api.OK {
		return reader.Ref{}, err
	}
	return reader.Root(a)
}

// message tells the value of a slot.
func (s step) message(i int) (reader.Ref, api.Errno) {
	l, err := s.slots.Get(i)
	if err != api.OK {
		return reader.Ref{}, err
	}
	return s.within([][]uint64{l})
}

// patch tells the edit of a slot.
func (s step) patch(i int) (api.Edit, api.Errno) {
	l, err := s.slots.Get(i)
	if err != api.OK {
		return api.Edit{}, err
	}
	return patch.Decode(l)
}

// patches tells the edits of two slots.
func (s step) patches(i, j int) (api.Edit, api.Edit, api.Errno) {
	p, err := s.patch(i)
	if err != api.OK {
		return api.Edit{}, api.Edit{}, err
	}
	q, err := s.patch(j)
	return p, q, err
}

// ofTree tells the words of a tree that are within limits.
func (s step) ofTree(t api.Tree, x api.Limits) ([]uint64, api.Errno) {
	l, ok := canon.Encode(t, s.limits.MaxOut)
	if !ok {
		return nil, api.ErrLimit
	}
	if _, err := valid.Check(arena.Of([][]uint64{l}), x); err != api.OK {
		return nil, api.ErrLimit
	}
	return l, api.OK
}

// put puts messages into the first slots of the command.
func (s step) put(l ...[]uint64) api.Errno {
	return s.slots.Put(s.args[:len(l)], l)
}

// putTree puts a tree into the first slot of the command.
func (s step) putTree(t api.Tree) api.Errno {
	l, err := s.ofTree(t, s.limits)
	if err != api.OK {
		return err
	}
	return s.put(l)
}

// putEdits puts edits into the first slots of the command, all or none.
func (s step) putEdits(edits ...api.Edit) api.Errno {
	var l [][]uint64
	for _, e := range edits {
		words, ok := patch.Encode(e, s.limits.MaxOut)
		if !ok {
			return api.ErrLimit
		}
		l = append(l, words)
	}
	return s.put(l...)
}
