package follows

import (
	"lists/classes"
	"lists/syntax"
)

// inner answers the classes of the first's i-th atom's second cell and last
// cell. No term is in them.
func inner(i int) (int, int) {
	near := classes.Most + 2*i
	return near, near + 1
}

// cut writes the i-th atom, a list, as one cell, or as two, or as more: the first
// of them, a list, and the last.
func cut(atoms []classes.Pair, i int, size int) []classes.Pair {
	near, far := inner(i)
	finer := append([]classes.Pair{}, atoms...)
	end := finer[i].Right
	finer[i].Kind = syntax.Points
	if size == 1 {
		return finer
	}
	finer[i].Right = near
	if size == 2 {
		return append(finer, classes.Pair{Kind: syntax.Points, Left: near, Right: end})
	}
	finer = append(finer, classes.Pair{Kind: syntax.List, Left: near, Right: far})
	return append(finer, classes.Pair{Kind: syntax.Points, Left: far, Right: end})
}

// isWhole tells whether the first's i-th atom is a list that is not cut up.
func (q *search) isWhole(atoms []classes.Pair, i int) bool {
	return i < len(q.first.Owners) && atoms[i].Kind == syntax.List
}

// cutAll cuts up all lists of the first that are whole.
func (q *search) cutAll(atoms []classes.Pair) []classes.Pair {
	finest := atoms
	for i := 0; i < len(atoms); i++ {
		if q.isWhole(atoms, i) {
			finest = cut(finest, i, 3)
		}
	}
	return finest
}

// torn answers a whole list that the second does not take as a whole, when all
// of them are cut up and it fits: none, if there is no such list.
func (q *search) torn(atoms []classes.Pair) int {
	for i := 0; i < len(atoms); i++ {
		if q.isWhole(atoms, i) && q.tears(i) {
			return i
		}
	}
	return none
}

// tears tells whether the pieces of the i-th atom went to several atoms, or
// something begins or ends between them.
func (q *search) tears(i int) bool {
	near, far := inner(i)
	middle := q.view.Begins(near)
	last := q.view.Begins(far)
	if middle < 0 || last < 0 {
		return true
	}
	if q.owner[middle] != q.owner[i] || q.owner[last] != q.owner[i] {
		return true
	}
	for c := 0; c < classes.Most; c++ {
		if q.bound[c] == near || q.bound[c] == far {
			return true
		}
	}
	return false
}
