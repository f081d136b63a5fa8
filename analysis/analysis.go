// Package analysis finds what may stand at each node of a program, and what may
// go wrong there (P10, P11).
package analysis

import (
	"lists/api"
	"lists/classes"
	"lists/effects"
	"lists/follows"
	"lists/syntax"
)

// patience is how many pairs of formulas may be compared.
const patience = 1 << 21

// Result is what was found. Of a program that is given up there is the verdict
// alone.
type Result struct {
	Verdict int
	Alarms  []api.Alarm          // by node, then by kind
	Known   [][]*classes.Formula // by node: together they hold of all that may stand there
}

// entry is a formula at a node, and whether the node's instruction was done with it.
type entry struct {
	drawn *follows.Drawn
	done  bool
}

// search goes from formula to formula until nothing new comes.
type search struct {
	code    *syntax.Program
	heads   []bool    // by node: whether a loop goes back to it
	loops   bool      // whether there is a loop
	known   [][]entry // by node
	wrong   [][]bool  // by node and kind
	bounded bool      // whether it may be given up
	left    int       // how many more formulas may be laid down
	looks   int       // how many more pairs may be compared
	full    bool      // that was not enough
}

// Of analyses a program.
func Of(code *syntax.Program) *Result {
	s := begin(code)
	s.enter()
	for node := s.pending(); node >= 0 && !s.full; node = s.pending() {
		s.visit(node)
	}
	return s.result()
}

func begin(code *syntax.Program) *search {
	count := len(code.Nodes)
	s := &search{code: code, left: api.MaxStates, looks: patience, bounded: !isSimple(code)}
	s.heads = make([]bool, count)
	s.known = make([][]entry, count)
	s.wrong = make([][]bool, count)
	for i := 0; i < count; i++ {
		s.wrong[i] = make([]bool, api.Dangling+1)
		n := code.Nodes[i]
		if n.Op == syntax.Jump && n.Next < i {
			s.heads[n.Next] = true
			s.loops = true
		}
	}
	return s
}

// enter lays the precondition down at the first node. Cells that it loses are
// told at the end, as no node loses them.
func (s *search) enter() {
	f := classes.Of(s.code.Pre)
	if f.False() {
		return
	}
	for i := 1 + len(s.code.Vars); i < classes.FirstHidden; i++ {
		f.Class[i] = f.Class[0]
	}
	f.Tidy()
	s.arrive(len(s.code.Nodes)-1, 0, f)
}

// pending answers the first node at which there is something to do: -1, if there
// is none. By that a loop is done with ahead of what stands behind it.
func (s *search) pending() int {
	for node := 0; node < len(s.known); node++ {
		for _, e := range s.known[node] {
			if !e.done {
				return node
			}
		}
	}
	return -1
}

// visit does a node's instruction with all that is new there.
func (s *search) visit(node int) {
	fresh := []*classes.Formula{}
	for i := 0; i < len(s.known[node]); i++ {
		if !s.known[node][i].done {
			s.known[node][i].done = true
			fresh = append(fresh, s.known[node][i].drawn.Form)
		}
	}
	for i := 0; i < len(fresh) && !s.full; i++ {
		s.step(node, fresh[i])
	}
}

func (s *search) step(node int, f *classes.Formula) {
	n := s.code.At(node)
	if n.Op == syntax.End && len(lost(f)) > 0 {
		s.wrong[node][api.Leaks] = true
	}
	o := effects.Of(n, f)
	if o.Null {
		s.wrong[node][api.Null] = true
	}
	if o.Dangling {
		s.wrong[node][api.Dangling] = true
	}
	if o.Full {
		s.full = true
	}
	for _, g := range o.Next {
		s.arrive(node, n.Next, g)
	}
	for _, g := range o.Other {
		s.arrive(node, n.Other, g)
	}
}

// arrive brings a formula from one node to another. With loops there is no
// telling how many cells may be lost: they are told at once, and forgotten.
func (s *search) arrive(from int, to int, f *classes.Formula) {
	if !s.loops || len(lost(f)) == 0 {
		s.lay(to, f)
		return
	}
	s.wrong[from][api.Leaks] = true
	for _, g := range s.forget(f) {
		s.lay(to, g)
	}
}

// lay keeps a formula at a node, unless it says nothing new there.
func (s *search) lay(node int, f *classes.Formula) {
	if s.heads[node] {
		f.Fold()
		f.Tidy()
	}
	fresh := follows.Draw(f)
	list := s.known[node]
	s.look(2 * len(list))
	for _, e := range list {
		if fresh.Within(e.drawn) {
			return
		}
	}
	kept := 0
	for i := 0; i < len(list); i++ {
		if !list[i].drawn.Within(fresh) {
			list[kept] = list[i]
			kept++
		}
	}
	list = list[:kept]
	list = append(list, entry{drawn: fresh})
	s.known[node] = list
	s.spend()
}

// spend counts a formula.
func (s *search) spend() {
	s.left--
	if s.left < 0 && s.bounded {
		s.full = true
	}
}

// look counts pairs that are compared.
func (s *search) look(count int) {
	s.looks -= count
	if s.looks < 0 && s.bounded {
		s.full = true
	}
}

func (s *search) result() *Result {
	if s.full {
		return &Result{Verdict: api.GaveUp}
	}
	r := &Result{Verdict: api.Safe}
	r.Known = make([][]*classes.Formula, len(s.known))
	for node := 0; node < len(s.known); node++ {
		for what := api.Leaks; what <= api.Dangling; what++ {
			if s.wrong[node][what] {
				r.Verdict = api.Alarms
				r.Alarms = append(r.Alarms, api.Alarm{Node: node, What: what})
			}
		}
		for _, e := range s.known[node] {
			r.Known[node] = append(r.Known[node], e.drawn.Form)
		}
	}
	return r
}
