package follows

import "lists/syntax"

// place makes the second's atoms that are not placed yet of the first's that
// nobody has; count tells how many are placed. What led nowhere is taken back.
// Both are tried in the order in which they are written: by that a formula
// follows from itself without a detour.
func (q *search) place(count int) bool {
	rest := len(q.second.Owners) - count
	if rest == 0 {
		return q.unused == 0 && q.apart()
	}
	if rest > q.unused {
		return false
	}
	k := q.choose()
	if k < 0 {
		return false
	}
	left := q.second.Owners[k].Left
	at := q.bound[left]
	if at != none {
		return q.walk(k, at, count)
	}
	for i := 0; i < len(q.view.Owners); i++ {
		q.bound[left] = q.view.Owners[i].Left
		if q.walk(k, q.view.Owners[i].Left, count) {
			return true
		}
	}
	q.bound[left] = none
	return false
}

// choose answers an atom of the second that is not placed: one of which it is
// known where it begins, if there is one.
func (q *search) choose() int {
	open := -1
	for k := 0; k < len(q.placed); k++ {
		if q.placed[k] {
			continue
		}
		if q.bound[q.second.Owners[k].Left] != none {
			return k
		}
		if open < 0 {
			open = k
		}
	}
	return open
}

// walk gives the second's k-th atom the first's that begins at a class, and tries
// to end it there or, if it is a list, to go on. A list may run through its own
// end, so that lists that are laid end to end are always a list.
func (q *search) walk(k int, at int, count int) bool {
	q.steps--
	if q.steps < 0 {
		return false
	}
	i := q.view.Begins(at)
	if i < 0 || q.owner[i] != none {
		return false
	}
	long := q.second.Owners[k].Kind == syntax.List
	if !long && q.view.Owners[i].Kind == syntax.List {
		return false
	}
	q.owner[i] = k
	q.unused--
	if q.end(k, q.view.Owners[i].Right, count) {
		return true
	}
	if long && q.walk(k, q.view.Owners[i].Right, count) {
		return true
	}
	q.owner[i] = none
	q.unused++
	return false
}

// end lets the second's k-th atom end in a class, and places the others.
func (q *search) end(k int, at int, count int) bool {
	right := q.second.Owners[k].Right
	before := q.bound[right]
	if before != none && before != at {
		return false
	}
	q.bound[right] = at
	q.placed[k] = true
	if q.place(count + 1) {
		return true
	}
	q.placed[k] = false
	q.bound[right] = before
	return false
}

// apart tells whether what the second says is not equal never is. A class that
// is still open may have a value that nothing else has.
func (q *search) apart() bool {
	for _, p := range q.second.Apart {
		if p.Left == p.Right {
			return false
		}
		a := q.bound[p.Left]
		b := q.bound[p.Right]
		if a == none || b == none {
			continue
		}
		if !q.view.Differ(a, b) {
			return false
		}
	}
	return true
}
