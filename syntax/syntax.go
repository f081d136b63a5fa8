// Package syntax has formulas and programs as they are read from texts (P3, P4).
package syntax

// Kinds of terms.
const (
	Nil    = 0
	Var    = 1
	Hidden = 2
)

// Term is nil, a variable or a hidden name; names are numbered by where they first stand.
type Term struct {
	Kind  int
	Index int
}

// Kinds of atoms.
const (
	Emp     = 0
	Equal   = 1
	Unequal = 2
	Points  = 3
	List    = 4
)

// Atom is one part of a formula; emp has no terms.
type Atom struct {
	Kind  int
	Left  Term
	Right Term
}

// What a node does. The nodes behind blocks, which only go elsewhere, are Jump.
const (
	End     = 0
	Assign  = 1 // Var = Arg
	Follow  = 2 // Var = Arg.n
	Link    = 3 // Var.n = Arg
	New     = 4 // Var = new
	Free    = 5 // free Var
	Skip    = 6
	Either  = 7 // the test *
	Same    = 8 // the test Var = Arg
	Differs = 9 // the test Var != Arg
	Jump    = 10
)

// Node is one step of a program. Next is where it goes on; Other, where a test
// goes on that is not so.
type Node struct {
	Op    int
	Var   int
	Arg   Term
	Next  int
	Other int
}

// Program is a program as it was read. Nothing changes it any more.
type Program struct {
	Text  string
	Vars  []byte // the variables' letters, by number
	Pre   []Atom
	Nodes []Node
}

// At answers a node; where there is none it answers the end, so that nobody
// has to ask first.
func (x *Program) At(node int) Node {
	if x == nil || node < 0 || node >= len(x.Nodes) {
		return Node{Op: End}
	}
	return x.Nodes[node]
}
