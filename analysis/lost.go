package analysis

import (
	"lists/classes"
	"lists/effects"
)

// lost tells which atoms have cells that need not be reached from a variable.
func lost(f *classes.Formula) []int {
	reached := f.Reached()
	list := []int{}
	for i := 0; i < len(f.Owners); i++ {
		if !reached[f.Owners[i].Left] {
			list = append(list, i)
		}
	}
	return list
}

// forget answers formulas without lost cells for all that f holds of: either a
// value that can be reached is the address of one of them after all, or they are
// lost for good, and nothing will ever come of them.
func (s *search) forget(f *classes.Formula) []*classes.Formula {
	result := []*classes.Formula{}
	cases := []*classes.Formula{f}
	for k := 0; k < len(cases) && !s.full; k++ {
		g := cases[k]
		gone := lost(g)
		if len(gone) == 0 {
			result = append(result, g)
			continue
		}
		result = append(result, without(g))
		for _, i := range gone {
			cases = s.found(cases, g, i)
		}
	}
	return result
}

// without answers a formula without the lost cells.
func without(f *classes.Formula) *classes.Formula {
	reached := f.Reached()
	g := f.Copy()
	g.Owners = []classes.Pair{}
	for _, p := range f.Owners {
		if reached[p.Left] {
			g.Lay(p.Kind, p.Left, p.Right)
		}
	}
	g.Tidy()
	return g
}

// found adds the cases in which one of the i-th atom's cells, which seem lost,
// is at a value that can be reached.
func (s *search) found(cases []*classes.Formula, f *classes.Formula, i int) []*classes.Formula {
	reached := f.Reached()
	for at := 0; at < classes.Most; at++ {
		if !reached[at] || at == f.Class[0] || f.Begins(at) >= 0 {
			continue
		}
		for _, g := range effects.Meet(f, at, i) {
			g.Tidy()
			if isNew(cases, g) {
				cases = append(cases, g)
				s.spend()
			}
		}
	}
	return cases
}

func isNew(cases []*classes.Formula, f *classes.Formula) bool {
	for _, g := range cases {
		if f.Same(g) {
			return false
		}
	}
	return true
}
