package etext

import (
	"strings"

	"cento/api"
	"cento/edit"
	"cento/text"
)

const (
	digits = "0123456789abcdef"

	// mostDigits is how many digits a number has at the most.
	mostDigits = 16
)

// Parse tells the right edit of a text.
func Parse(s string) (e api.Edit, err api.Errno) {
	defer func() {
		if recover() != nil {
			e, err = api.Edit{}, api.ErrText
		}
	}()
	p := parser{rest: s}
	e = p.edit(api.MaxDepth)
	p.need(p.rest == "" && edit.Right(e))
	return e, api.OK
}

// parser is the text that is left. It panics where that is no edit's.
type parser struct{ rest string }

func (p *parser) need(ok bool) {
	if !ok {
		panic("this is no edit's text")
	}
}

// take takes a byte, if it is the next one.
func (p *parser) take(c byte) bool {
	if p.rest == "" || p.rest[0] != c {
		return false
	}
	p.rest = p.rest[1:]
	return true
}

// edit takes an edit's text, with so many within one another at the most.
func (p *parser) edit(depth int) api.Edit {
	p.need(depth > 0)
	switch {
	case p.take('='):
		return api.Edit{}
	case p.take('('):
		return p.replace()
	case p.take('s'):
		return p.structure(depth - 1)
	}
	p.need(p.take('l'))
	return p.list(depth - 1)
}

func (p *parser) replace() api.Edit {
	old := p.tree()
	p.need(p.take('>'))
	now := p.tree()
	p.need(p.take(')'))
	return api.Edit{Kind: api.Replace, Old: old, New: now}
}

func (p *parser) structure(depth int) api.Edit {
	e := api.Edit{Kind: api.StructEdit}
	p.need(p.take('{'))
	p.row('|', func() {
		e.Words = append(e.Words, p.word())
	})
	p.row('}', func() {
		at := p.numberTo(':')
		e.Kids = append(e.Kids, api.KidEdit{At: int(at), E: p.edit(depth)})
	})
	return e
}

func (p *parser) word() api.WordEdit {
	at, mask, old, now := p.numberTo(':'), p.numberTo(':'), p.numberTo(':'), p.number()
	p.need(mask < 1<<8)
	return api.WordEdit{At: int(at), Mask: byte(mask), Old: old, New: now}
}

func (p *parser) list(depth int) api.Edit {
	p.need(p.rest != "")
	kind := strings.IndexByte(letters, p.rest[0])
	p.need(kind >= 0)
	p.rest = p.rest[1:]
	e := api.Edit{Kind: api.ListEdit, List: api.Void + kind}
	p.need(p.take('['))
	p.row(']', func() {
		e.Ops = append(e.Ops, p.op(e.List, depth))
	})
	return e
}

func (p *parser) op(list, depth int) api.Op {
	switch {
	case p.take('k'):
		return api.Op{Kind: api.Keep, N: int(p.number())}
	case p.take('-'):
		return api.Op{Kind: api.Delete, L: p.kids(list)}
	case p.take('+'):
		return api.Op{Kind: api.Insert, L: p.kids(list)}
	}
	p.need(p.take('*'))
	return api.Op{Kind: api.Descend, E: p.edit(depth)}
}

// row takes parts, with commas between, if there are some, and what ends them.
func (p *parser) row(end byte, part func()) {
	if p.take(end) {
		return
	}
	part()
	for !p.take(end) {
		p.need(p.take(','))
		part()
	}
}

// kids takes the text of a list of a kind: its kids.
func (p *parser) kids(list int) []api.Tree {
	t := p.tree()
	p.need(t.Kind == list)
	return t.Kids
}

// tree takes a tree's text, which ends where all that it opens is closed.
func (p *parser) tree() api.Tree {
	open := 0
	for i := range len(p.rest) {
		c := p.rest[i]
		switch c {
		case '{', '[':
			open++
		case '}', ']':
			open--
		}
		if open == 0 && (c == '_' || c == '}' || c == ']') {
			t, err := text.Parse(p.rest[:i+1])
			p.need(err == api.OK)
			p.rest = p.rest[i+1:]
			return t
		}
	}
	p.need(false)
	return api.Tree{}
}

// number takes a number without a needless 0.
func (p *parser) number() uint64 {
	var n uint64
	taken := 0
	for taken < len(p.rest) && strings.IndexByte(digits, p.rest[taken]) >= 0 {
		n = n<<4 | uint64(strings.IndexByte(digits, p.rest[taken]))
		taken++
	}
	p.need(taken > 0 && taken <= mostDigits && (taken == 1 || p.rest[0] != '0'))
	p.rest = p.rest[taken:]
	return n
}

// numberTo takes a number, and what ends it.
func (p *parser) numberTo(end byte) uint64 {
	n := p.number()
	p.need(p.take(end))
	return n
}
