// Package holds tells whether a formula holds of a store and cells (P5).
package holds

import (
	"lists/api"
	"lists/cells"
	"lists/syntax"
)

// Terms are numbered: nil, the variables, the hidden names.
const (
	firstHidden = 1 + api.MaxVars
	terms       = firstHidden + api.MaxHidden
)

// unknown is the value of a hidden name that nothing has settled.
const unknown = -1

// pair is an atom of two classes.
type pair struct {
	kind  int
	left  int
	right int
}

// search looks for values of the hidden names. Terms that are said to be equal
// are one class, so that only `!=` and the atoms with cells remain.
type search struct {
	class [terms]int
	value [terms]int // by class
	apart []pair
	owner []pair
	heap  *cells.Cells
	used  []bool // by cell: whether an atom has it
	free  int    // how many cells no atom has
}

// Holds tells whether the atoms hold together of a store and cells (P5).
func Holds(atoms []syntax.Atom, store []int, heap *cells.Cells) bool {
	s := &search{heap: heap}
	s.free = heap.Len()
	s.used = make([]bool, s.free)
	s.merge(atoms)
	if !s.settle(store) {
		return false
	}
	s.sort(atoms)
	// Each of them has a cell at least. This also bounds the search.
	if len(s.owner) > s.free {
		return false
	}
	return s.fill(0)
}

// number tells a term's number.
func number(t syntax.Term) int {
	switch t.Kind {
	case syntax.Var:
		return 1 + t.Index
	case syntax.Hidden:
		return firstHidden + t.Index
	}
	return 0
}

// merge makes classes of the terms that are said to be equal.
func (s *search) merge(atoms []syntax.Atom) {
	for i := 0; i < terms; i++ {
		s.class[i] = i
	}
	for _, a := range atoms {
		if a.Kind == syntax.Equal {
			kept := s.class[number(a.Left)]
			gone := s.class[number(a.Right)]
			s.join(kept, gone)
		}
	}
}

func (s *search) join(kept int, gone int) {
	for i := 0; i < terms; i++ {
		if s.class[i] == gone {
			s.class[i] = kept
		}
	}
}

// settle gives the classes of nil and of the variables their values; false, if
// a class would have two.
func (s *search) settle(store []int) bool {
	for i := 0; i < terms; i++ {
		s.value[i] = unknown
	}
	s.value[s.class[0]] = 0
	for i := 0; i < len(store) && i < api.MaxVars; i++ {
		c := s.class[1+i]
		if s.value[c] != unknown && s.value[c] != store[i] {
			return false
		}
		s.value[c] = store[i]
	}
	return true
}

// sort parts the atoms by what the search does with them.
func (s *search) sort(atoms []syntax.Atom) {
	for _, a := range atoms {
		p := pair{kind: a.Kind, left: s.class[number(a.Left)], right: s.class[number(a.Right)]}
		switch a.Kind {
		case syntax.Unequal:
			s.apart = append(s.apart, p)
		case syntax.Points, syntax.List:
			s.owner = append(s.owner, p)
		}
	}
}

// fill finds cells for the atoms from the k-th on.
func (s *search) fill(k int) bool {
	if k >= len(s.owner) {
		return s.free == 0 && s.differ()
	}
	left := s.owner[k].left
	addr := s.value[left]
	if addr != unknown {
		return s.walk(k, addr)
	}
	for i := 0; i < s.heap.Len(); i++ {
		c := s.heap.At(i)
		s.value[left] = c.Addr
		if s.walk(k, c.Addr) {
			return true
		}
	}
	s.value[left] = unknown
	return false
}

// walk gives the k-th atom the cell at an address, and tries to end it there or,
// if it is a list, to go on. A list may well run through its own end: so a cell
// that holds the end is not always the last.
func (s *search) walk(k int, addr int) bool {
	i := s.heap.Find(addr)
	if i < 0 || s.used[i] {
		return false
	}
	s.used[i] = true
	s.free--
	next := s.heap.At(i).Next
	ok := s.end(k, next)
	if !ok && s.owner[k].kind == syntax.List {
		ok = s.walk(k, next)
	}
	s.used[i] = false
	s.free++
	return ok
}

// end lets the k-th atom's last cell hold a value, and tries the other atoms.
func (s *search) end(k int, next int) bool {
	right := s.owner[k].right
	before := s.value[right]
	if before != unknown && before != next {
		return false
	}
	s.value[right] = next
	ok := s.fill(k + 1)
	s.value[right] = before
	return ok
}

// differ tells whether `!=` holds of all. A class that is still unknown belongs
// to no cell, and there are numbers enough for it to be like nothing else.
func (s *search) differ() bool {
	for _, p := range s.apart {
		if p.left == p.right {
			return false
		}
		if s.value[p.left] != unknown && s.value[p.left] == s.value[p.right] {
			return false
		}
	}
	return true
}
