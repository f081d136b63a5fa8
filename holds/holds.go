// Package holds tells whether a formula holds of a store and cells (P5).
package holds

import (
	"lists/api"
	"lists/cells"
	"lists/classes"
	"lists/syntax"
)

// unknown is the value of a hidden name that nothing has settled.
const unknown = -1

// search looks for values of the hidden names.
type search struct {
	form  *classes.Formula
	value [classes.Most]int // by class
	heap  *cells.Cells
	used  []bool // by cell: whether an atom has it
	free  int    // how many cells no atom has
}

// Holds tells whether the atoms hold together of a store and cells (P5).
func Holds(atoms []syntax.Atom, store []int, heap *cells.Cells) bool {
	s := &search{heap: heap}
	s.form = classes.Of(atoms)
	s.free = heap.Len()
	s.used = make([]bool, s.free)
	if !s.settle(store) {
		return false
	}
	// Each of them has a cell at least. This also bounds the search.
	if len(s.form.Owners) > s.free {
		return false
	}
	return s.fill(0)
}

// settle gives the classes of nil and of the variables their values; false, if
// a class would have two.
func (s *search) settle(store []int) bool {
	for i := 0; i < classes.Most; i++ {
		s.value[i] = unknown
	}
	s.value[s.form.Class[0]] = 0
	for i := 0; i < len(store) && i < api.MaxVars; i++ {
		c := s.form.Class[1+i]
		if s.value[c] != unknown && s.value[c] != store[i] {
			return false
		}
		s.value[c] = store[i]
	}
	return true
}

// fill finds cells for the atoms from the k-th on.
func (s *search) fill(k int) bool {
	if k >= len(s.form.Owners) {
		return s.free == 0 && s.differ()
	}
	left := s.form.Owners[k].Left
	addr := s.value[left]
	if addr != unknown {
		return s.walk(k, addr)
	}
	for i := 0; i < s.heap.Len(); i++ {
		c := s.heap.At(i)
		s.value[left] = c.Addr
		if s.walk(k, c.Addr) {
			return true
		}
	}
	s.value[left] = unknown
	return false
}

// walk gives the k-th atom the cell at an address, and tries to end it there or,
// if it is a list, to go on. A list may well run through its own end: so a cell
// that holds the end is not always the last.
func (s *search) walk(k int, addr int) bool {
	i := s.heap.Find(addr)
	if i < 0 || s.used[i] {
		return false
	}
	s.used[i] = true
	s.free--
	next := s.heap.At(i).Next
	ok := s.end(k, next)
	if !ok && s.form.Owners[k].Kind == syntax.List {
		ok = s.walk(k, next)
	}
	s.used[i] = false
	s.free++
	return ok
}

// end lets the k-th atom's last cell hold a value, and tries the other atoms.
func (s *search) end(k int, next int) bool {
	right := s.form.Owners[k].Right
	before := s.value[right]
	if before != unknown && before != next {
		return false
	}
	s.value[right] = next
	ok := s.fill(k + 1)
	s.value[right] = before
	return ok
}

// differ tells whether `!=` holds of all. A class that is still unknown belongs
// to no cell, and there are numbers enough for it to be like nothing else.
func (s *search) differ() bool {
	for _, p := range s.form.Apart {
		if p.Left == p.Right {
			return false
		}
		if s.value[p.Left] != unknown && s.value[p.Left] == s.value[p.Right] {
			return false
		}
	}
	return true
}
