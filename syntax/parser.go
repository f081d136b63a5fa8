package syntax

import (
	"lists/api"
	"lists/words"
)

// parser goes through the words once. Behind a fault it sees no more words, so
// that every rule and every loop ends by itself.
type parser struct {
	words  []string
	at     int
	failed bool
	vars   []byte
	hidden []byte
	nodes  []Node
}

// Read reads a program (P3, P4).
func Read(s string) (*Program, api.Errno) {
	if len(s) > api.MaxText {
		return nil, api.ErrLong
	}
	list, ok := words.Split(s)
	if !ok {
		return nil, api.ErrLex
	}
	p := &parser{words: list}
	pre := p.program()
	if p.failed {
		return nil, api.ErrSyntax
	}
	if len(p.vars) > api.MaxVars || len(p.hidden) > api.MaxHidden {
		return nil, api.ErrNames
	}
	return &Program{Text: words.Join(list), Vars: p.vars, Pre: pre, Nodes: p.nodes}, api.OK
}

func (p *parser) program() []Atom {
	p.expect("pre")
	pre := p.formula()
	p.block()
	p.add(Node{Op: End})
	if p.at != len(p.words) {
		p.failed = true
	}
	return pre
}

// peek answers the next word, or "" if none is left.
func (p *parser) peek() string {
	if p.failed || p.at >= len(p.words) {
		return ""
	}
	return p.words[p.at]
}

// accept takes the next word if it is w.
func (p *parser) accept(w string) bool {
	if p.peek() != w {
		return false
	}
	p.at++
	return true
}

// expect takes the next word, which must be w.
func (p *parser) expect(w string) {
	if !p.accept(w) {
		p.failed = true
	}
}

func (p *parser) formula() []Atom {
	first := p.atom()
	list := []Atom{first}
	for p.accept("*") {
		next := p.atom()
		list = append(list, next)
	}
	return list
}

func (p *parser) atom() Atom {
	if p.accept("emp") {
		return Atom{Kind: Emp}
	}
	if p.accept("ls") {
		return p.list()
	}
	left := p.term()
	kind := p.relation()
	right := p.term()
	return Atom{Kind: kind, Left: left, Right: right}
}

func (p *parser) list() Atom {
	p.expect("(")
	left := p.term()
	p.expect(",")
	right := p.term()
	p.expect(")")
	return Atom{Kind: List, Left: left, Right: right}
}

// relation takes the sign of an atom.
func (p *parser) relation() int {
	if p.accept("=") {
		return Equal
	}
	if p.accept("!=") {
		return Unequal
	}
	p.expect("->")
	return Points
}

func (p *parser) term() Term {
	w := p.peek()
	if words.IsHidden(w) {
		p.at++
		i := place(p.hidden, w[0])
		if i == len(p.hidden) {
			p.hidden = append(p.hidden, w[0])
		}
		return Term{Kind: Hidden, Index: i}
	}
	return p.value()
}

// value takes what commands and tests may name: nil or a variable.
func (p *parser) value() Term {
	if p.accept("nil") {
		return Term{Kind: Nil}
	}
	i := p.variable()
	return Term{Kind: Var, Index: i}
}

// variable takes a variable and answers its number.
func (p *parser) variable() int {
	w := p.peek()
	if !words.IsVariable(w) {
		p.failed = true
		return 0
	}
	p.at++
	i := place(p.vars, w[0])
	if i == len(p.vars) {
		p.vars = append(p.vars, w[0])
	}
	return i
}

// place tells where a letter stands in a list: behind it, if it does not.
func place(list []byte, letter byte) int {
	for i := 0; i < len(list); i++ {
		if list[i] == letter {
			return i
		}
	}
	return len(list)
}
