package syntax

import (
	"lists/api"
	"lists/words"
)

// parser goes through the words once. Behind a fault it sees no more words, so
// that every rule and every loop ends by itself.
type parser struct {
	words  []string
	at     int
	failed bool
	vars   []byte
	hidden []byte
	nodes  []Node
}

// Read reads a program (P3, P4).
func Read(s string) (*Program, api.Errno) {
	p := &parser{}
	e := p.open(s)
	if e != api.OK {
		return nil, e
	}
	pre := p.program()
	if p.failed {
		return nil, api.ErrSyntax
	}
	if len(p.vars) > api.MaxVars || len(p.hidden) > api.MaxHidden {
		return nil, api.ErrNames
	}
	return &Program{Text: words.Join(p.words), Vars: p.vars, Pre: pre, Nodes: p.nodes}, api.OK
}

// open lays the words of a text ahead of the parser. Its hidden names are its
// own; variables are the same in all texts of one parser.
func (p *parser) open(s string) api.Errno {
	if len(s) > api.MaxText {
		return api.ErrLong
	}
	list, ok := words.Split(s)
	if !ok {
		return api.ErrLex
	}
	p.words = list
	p.at = 0
	p.hidden = nil
	return api.OK
}

// finish sees to it that no word is left.
func (p *parser) finish() {
	if p.at != len(p.words) {
		p.failed = true
	}
}

func (p *parser) program() []Atom {
	p.expect("pre")
	pre := p.formula()
	p.block()
	p.add(Node{Op: End})
	p.finish()
	return pre
}

// peek answers the next word, or "" if none is left.
func (p *parser) peek() string {
	if p.failed || p.at >= len(p.words) {
		return ""
	}
	return p.words[p.at]
}

// accept takes the next word if it is w.
func (p *parser) accept(w string) bool {
	if p.peek() != w {
		return false
	}
	p.at++
	return true
}

// expect takes the next word, which must be w.
func (p *parser) expect(w string) {
	if !p.accept(w) {
		p.failed = true
	}
}

// value takes what commands and tests may name: nil or a variable.
func (p *parser) value() Term {
	if p.accept("nil") {
		return Term{Kind: Nil}
	}
	i := p.variable()
	return Term{Kind: Var, Index: i}
}

// variable takes a variable and answers its number.
func (p *parser) variable() int {
	w := p.peek()
	if !words.IsVariable(w) {
		p.failed = true
		return 0
	}
	p.at++
	i := place(p.vars, w[0])
	if i == len(p.vars) {
		p.vars = append(p.vars, w[0])
	}
	return i
}

// place tells where a letter stands in a list: behind it, if it does not.
func place(list []byte, letter byte) int {
	for i := 0; i < len(list); i++ {
		if list[i] == letter {
			return i
		}
	}
	return len(list)
}
