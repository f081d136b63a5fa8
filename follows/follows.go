// Package follows tells whether a formula is seen to follow from another (P9).
package follows

import (
	"lists/api"
	"lists/classes"
	"lists/syntax"
)

// patience is how many steps a search may take. What it has not seen by then it
// does not see: that only ever makes a true answer false.
const patience = 1 << 18

// none is the class, or the atom, that is not known yet.
const none = -1

// search deals out the first formula's atoms with cells among the second's. The
// first's are looked at with some of its lists cut up.
type search struct {
	first  *classes.Formula
	second *classes.Formula
	anchor [classes.Most]int // by class of the second: the class of the first that it must be
	bound  [classes.Most]int // by class of the second: the class of the first that it is
	view   *classes.Formula  // the first as it is looked at
	owner  []int             // by atom of the first: the atom of the second that has it
	unused int               // how many of the first's nobody has
	placed []bool            // by atom of the second
	steps  int
}

// Follows tells whether t is seen to hold wherever s does: ErrFalse, if s holds
// nowhere.
func Follows(s []syntax.Atom, t []syntax.Atom) (bool, api.Errno) {
	first := classes.Of(s)
	if first.False() {
		return false, api.ErrFalse
	}
	second := classes.Of(t)
	q := &search{first: first, second: second, steps: patience}
	if !q.drop() {
		return false, api.OK
	}
	seen := q.always(first.Owners)
	return seen, api.OK
}

// drop finds where the classes with nil or a variable in them are anchored;
// false, if the second makes one of what the first leaves apart.
func (q *search) drop() bool {
	for i := 0; i < classes.Most; i++ {
		q.anchor[i] = none
	}
	for i := 0; i < classes.FirstHidden; i++ {
		c := q.second.Class[i]
		if q.anchor[c] != none && q.anchor[c] != q.first.Class[i] {
			return false
		}
		q.anchor[c] = q.first.Class[i]
	}
	return true
}

// always tells whether the second fits, however many cells the first's lists
// have that are not cut up yet. If it does not fit as they stand, it must fit
// when they are all cut up, and that shows which of them matters.
func (q *search) always(atoms []classes.Pair) bool {
	if q.fits(atoms) {
		return true
	}
	finest := q.cutAll(atoms)
	if !q.fits(finest) {
		return false
	}
	i := q.torn(atoms)
	if i < 0 {
		return false
	}
	for size := 1; size <= 3; size++ {
		finer := cut(atoms, i, size)
		if !q.always(finer) {
			return false
		}
	}
	return true
}

// fits tells whether the second formula's atoms can be made of these.
func (q *search) fits(atoms []classes.Pair) bool {
	q.begin(atoms)
	return q.place(0)
}

func (q *search) begin(atoms []classes.Pair) {
	q.view = &classes.Formula{Class: q.first.Class, Apart: q.first.Apart, Owners: atoms}
	q.unused = len(atoms)
	q.owner = make([]int, len(atoms))
	for i := 0; i < len(q.owner); i++ {
		q.owner[i] = none
	}
	q.placed = make([]bool, len(q.second.Owners))
	q.bound = q.anchor
}
