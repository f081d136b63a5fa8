// Package classes makes one of the terms that a formula says are equal: only
// `!=` and the atoms with cells remain of it then.
package classes

import (
	"lists/api"
	"lists/syntax"
)

// Terms are numbered: nil, the variables, the hidden names.
const (
	FirstHidden = 1 + api.MaxVars
	Terms       = FirstHidden + api.MaxHidden
)

// Pair is an atom of two classes, its kind as in package syntax.
type Pair struct {
	Kind  int
	Left  int
	Right int
}

// Formula is a formula in classes. A class has the number of one of its terms.
type Formula struct {
	Class  [Terms]int // by term
	Apart  []Pair     // `!=`
	Owners []Pair     // the atoms with cells
}

// Of writes a formula in classes.
func Of(atoms []syntax.Atom) *Formula {
	f := &Formula{}
	f.merge(atoms)
	f.sort(atoms)
	return f
}

// number tells a term's number.
func number(t syntax.Term) int {
	switch t.Kind {
	case syntax.Var:
		return 1 + t.Index
	case syntax.Hidden:
		return FirstHidden + t.Index
	}
	return 0
}

// merge makes classes of the terms that are said to be equal.
func (f *Formula) merge(atoms []syntax.Atom) {
	for i := 0; i < Terms; i++ {
		f.Class[i] = i
	}
	for _, a := range atoms {
		if a.Kind == syntax.Equal {
			kept := f.Class[number(a.Left)]
			gone := f.Class[number(a.Right)]
			f.join(kept, gone)
		}
	}
}

func (f *Formula) join(kept int, gone int) {
	for i := 0; i < Terms; i++ {
		if f.Class[i] == gone {
			f.Class[i] = kept
		}
	}
}

// sort parts the other atoms by whether they have cells.
func (f *Formula) sort(atoms []syntax.Atom) {
	for _, a := range atoms {
		p := Pair{Kind: a.Kind, Left: f.Class[number(a.Left)], Right: f.Class[number(a.Right)]}
		switch a.Kind {
		case syntax.Unequal:
			f.Apart = append(f.Apart, p)
		case syntax.Points, syntax.List:
			f.Owners = append(f.Owners, p)
		}
	}
}

// False tells whether the formula holds nowhere. Where it answers false, the
// formula holds if each class has a value of its own and each list one cell.
func (f *Formula) False() bool {
	for _, p := range f.Apart {
		if p.Left == p.Right {
			return true
		}
	}
	var begun [Terms]bool
	begun[f.Class[0]] = true // no cell is at nil
	for _, p := range f.Owners {
		if begun[p.Left] {
			return true
		}
		begun[p.Left] = true
	}
	return false
}
