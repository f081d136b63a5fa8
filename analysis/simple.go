package analysis

import "lists/syntax"

// What a simple program may have at most (P12).
const (
	simpleTests = 5
	simpleNews  = 4
	simpleNames = 6
	simpleAll   = 8 // names and `new` together
)

// isSimple tells whether a program is simple: of such a one everything is found,
// however many formulas that takes.
func isSimple(code *syntax.Program) bool {
	tests := 0
	news := 0
	for i := 0; i < len(code.Nodes); i++ {
		switch code.Nodes[i].Op {
		case syntax.Either, syntax.Same, syntax.Differs:
			tests++
		case syntax.New:
			news++
		case syntax.Jump:
			if code.Nodes[i].Next < i {
				return false
			}
		}
	}
	names := len(code.Vars)
	for _, a := range code.Pre {
		if a.Kind == syntax.List {
			return false
		}
	}
	names += hidden(code.Pre)
	return tests <= simpleTests && news <= simpleNews && names <= simpleNames && names+news <= simpleAll
}

// hidden tells how many hidden names there are: they are numbered from 0.
func hidden(atoms []syntax.Atom) int {
	count := 0
	for _, a := range atoms {
		for _, t := range [2]syntax.Term{a.Left, a.Right} {
			if t.Kind == syntax.Hidden && t.Index >= count {
				count = t.Index + 1
			}
		}
	}
	return count
}
