package syntax

import (
	"lists/api"
	"lists/words"
)

// ReadTwo reads two formulas that speak of the same variables, but each of
// hidden names of its own (P9).
func ReadTwo(s string, t string) ([]Atom, []Atom, api.Errno) {
	p := &parser{}
	first, e := p.text(s)
	if e != api.OK {
		return nil, nil, e
	}
	hidden := len(p.hidden)
	second, e := p.text(t)
	if e != api.OK {
		return nil, nil, e
	}
	if len(p.vars) > api.MaxVars || hidden > api.MaxHidden || len(p.hidden) > api.MaxHidden {
		return nil, nil, api.ErrNames
	}
	return first, second, api.OK
}

// text reads a text that is a formula and nothing else.
func (p *parser) text(s string) ([]Atom, api.Errno) {
	e := p.open(s)
	if e != api.OK {
		return nil, e
	}
	list := p.formula()
	p.finish()
	if p.failed {
		return nil, api.ErrSyntax
	}
	return list, api.OK
}

func (p *parser) formula() []Atom {
	first := p.atom()
	list := []Atom{first}
	for p.accept("*") {
		next := p.atom()
		list = append(list, next)
	}
	return list
}

func (p *parser) atom() Atom {
	if p.accept("emp") {
		return Atom{Kind: Emp}
	}
	if p.accept("ls") {
		return p.list()
	}
	left := p.term()
	kind := p.relation()
	right := p.term()
	return Atom{Kind: kind, Left: left, Right: right}
}

func (p *parser) list() Atom {
	p.expect("(")
	left := p.term()
	p.expect(",")
	right := p.term()
	p.expect(")")
	return Atom{Kind: List, Left: left, Right: right}
}

// relation takes the sign of an atom.
func (p *parser) relation() int {
	if p.accept("=") {
		return Equal
	}
	if p.accept("!=") {
		return Unequal
	}
	p.expect("->")
	return Points
}

func (p *parser) term() Term {
	w := p.peek()
	if words.IsHidden(w) {
		p.at++
		i := place(p.hidden, w[0])
		if i == len(p.hidden) {
			p.hidden = append(p.hidden, w[0])
		}
		return Term{Kind: Hidden, Index: i}
	}
	return p.value()
}
