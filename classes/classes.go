// Package classes makes one of the terms that a formula says are equal: only
// `!=` and the atoms with cells remain of it then. Such a formula is also what
// the analyser knows at a place of a program.
package classes

import (
	"lists/api"
	"lists/syntax"
)

// Terms are numbered: nil, the variables, the hidden names.
const (
	FirstHidden = 1 + api.MaxVars
	Terms       = FirstHidden + api.MaxHidden
)

// Most is how many classes a formula may have: they are numbered below it. All
// terms of a text have room.
const Most = api.MaxClasses

// Pair is an atom of two classes, its kind as in package syntax.
type Pair struct {
	Kind  int
	Left  int
	Right int
}

// Formula is a formula in classes. Hidden names are known by their classes alone.
type Formula struct {
	Class  [FirstHidden]int // of nil, and of the variables
	Apart  []Pair           // `!=`
	Owners []Pair           // the atoms with cells
}

// Of writes a formula in classes.
func Of(atoms []syntax.Atom) *Formula {
	class := merge(atoms)
	f := &Formula{}
	for i := 0; i < FirstHidden; i++ {
		f.Class[i] = class[i]
	}
	for _, a := range atoms {
		p := Pair{Kind: a.Kind, Left: class[number(a.Left)], Right: class[number(a.Right)]}
		switch a.Kind {
		case syntax.Unequal:
			f.Apart = append(f.Apart, p)
		case syntax.Points, syntax.List:
			f.Owners = append(f.Owners, p)
		}
	}
	return f
}

// number tells a term's number.
func number(t syntax.Term) int {
	switch t.Kind {
	case syntax.Var:
		return 1 + t.Index
	case syntax.Hidden:
		return FirstHidden + t.Index
	}
	return 0
}

// merge tells the terms' classes: those that are said to be equal have one.
func merge(atoms []syntax.Atom) [Terms]int {
	var class [Terms]int
	for i := 0; i < Terms; i++ {
		class[i] = i
	}
	for _, a := range atoms {
		if a.Kind != syntax.Equal {
			continue
		}
		kept := class[number(a.Left)]
		gone := class[number(a.Right)]
		for i := 0; i < Terms; i++ {
			if class[i] == gone {
				class[i] = kept
			}
		}
	}
	return class
}

// False tells whether the formula holds nowhere. Where it answers false, the
// formula holds if each class has a value of its own and each list one cell.
func (f *Formula) False() bool {
	for _, p := range f.Apart {
		if p.Left == p.Right {
			return true
		}
	}
	var begun [Most]bool
	begun[f.Class[0]] = true // no cell is at nil
	for _, p := range f.Owners {
		if begun[p.Left] {
			return true
		}
		begun[p.Left] = true
	}
	return false
}

// Begins tells which of the atoms with cells begins at a class: -1, if none does.
func (f *Formula) Begins(class int) int {
	for i := 0; i < len(f.Owners); i++ {
		if f.Owners[i].Left == class {
			return i
		}
	}
	return -1
}

// Differ tells whether two classes never have one value: the formula says so, or
// both begin an atom, or one does and the other is nil.
func (f *Formula) Differ(a int, b int) bool {
	if a == b {
		return false
	}
	for _, p := range f.Apart {
		if p.Left == a && p.Right == b || p.Left == b && p.Right == a {
			return true
		}
	}
	return f.clear(a, b)
}

// clear tells whether the atoms with cells keep two classes apart.
func (f *Formula) clear(a int, b int) bool {
	null := f.Class[0]
	first := f.Begins(a) >= 0
	second := f.Begins(b) >= 0
	return first && (second || b == null) || second && a == null
}
