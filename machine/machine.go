// Package machine runs programs step by step (P6 to P8).
package machine

import (
	"lists/api"
	"lists/cells"
	"lists/holds"
	"lists/syntax"
)

// Run is a run of a program.
type Run struct {
	code  *syntax.Program
	node  int
	what  int
	store []int
	heap  cells.Cells
}

// Start begins a run (P6).
func Start(code *syntax.Program, store []int, list []int) (*Run, api.Errno) {
	if len(list) > 2*api.MaxCells {
		return nil, api.ErrLong
	}
	if len(store) != len(code.Vars) || !areValues(store) || !areCells(list) {
		return nil, api.ErrArg
	}
	r := &Run{code: code, store: fresh(store)}
	for i := 0; i+1 < len(list); i += 2 {
		r.heap.Add(list[i], list[i+1])
	}
	if !holds.Holds(code.Pre, r.store, &r.heap) {
		return nil, api.ErrPre
	}
	r.enter(0)
	return r, api.OK
}

func areValues(list []int) bool {
	for _, v := range list {
		if v < 0 || v > api.MaxAddr {
			return false
		}
	}
	return true
}

// areCells tells whether numbers are rising addresses and values, by turns.
func areCells(list []int) bool {
	if len(list)%2 != 0 || !areValues(list) {
		return false
	}
	last := 0
	for i := 0; i < len(list); i += 2 {
		if list[i] <= last {
			return false
		}
		last = list[i]
	}
	return true
}

func fresh(list []int) []int {
	out := make([]int, len(list))
	copy(out, list)
	return out
}

// State tells how the run stands (P8).
func (r *Run) State() api.State {
	store := fresh(r.store)
	list := r.heap.Numbers()
	return api.State{Node: r.node, What: r.what, Store: store, Cells: list}
}

// Step does one instruction (P7).
func (r *Run) Step(choice int) api.Errno {
	if r.what != api.Going {
		return api.OK
	}
	n := r.code.At(r.node)
	left := r.variable(n.Var)
	right := r.value(n.Arg)
	switch n.Op {
	case syntax.Assign:
		r.set(n.Var, right)
		r.enter(n.Next)
	case syntax.New:
		return r.create(n, choice)
	case syntax.Follow:
		r.follow(n, right)
	case syntax.Link:
		done := r.heap.Link(left, right)
		r.proceed(n, left, done)
	case syntax.Free:
		done := r.heap.Remove(left)
		r.proceed(n, left, done)
	case syntax.Either:
		r.branch(n, choice%2 != 0)
	case syntax.Same:
		r.branch(n, left == right)
	case syntax.Differs:
		r.branch(n, left != right)
	case syntax.Skip, syntax.Jump:
		r.enter(n.Next)
	}
	return api.OK
}

func (r *Run) variable(v int) int {
	if v < 0 || v >= len(r.store) {
		return 0
	}
	return r.store[v]
}

func (r *Run) value(t syntax.Term) int {
	if t.Kind == syntax.Nil {
		return 0
	}
	return r.variable(t.Index)
}

func (r *Run) set(v int, value int) {
	if v >= 0 && v < len(r.store) {
		r.store[v] = value
	}
}

// enter goes on to a node. At the end it is told at once how the run stands,
// since no step is done there.
func (r *Run) enter(node int) {
	r.node = node
	n := r.code.At(node)
	if n.Op != syntax.End {
		return
	}
	r.what = api.Leaks
	if r.heap.AllReached(r.store) {
		r.what = api.Done
	}
}

func (r *Run) branch(n syntax.Node, so bool) {
	if so {
		r.enter(n.Next)
		return
	}
	r.enter(n.Other)
}

func (r *Run) create(n syntax.Node, choice int) api.Errno {
	if choice < 1 || choice > api.MaxAddr {
		return api.ErrArg
	}
	if !r.heap.Add(choice, 0) {
		return api.ErrArg
	}
	r.set(n.Var, choice)
	r.enter(n.Next)
	return api.OK
}

func (r *Run) follow(n syntax.Node, addr int) {
	i := r.heap.Find(addr)
	if i >= 0 {
		c := r.heap.At(i)
		r.set(n.Var, c.Next)
	}
	r.proceed(n, addr, i >= 0)
}

// proceed goes on if there was a cell at addr; else the run ends where it is.
func (r *Run) proceed(n syntax.Node, addr int, found bool) {
	if found {
		r.enter(n.Next)
		return
	}
	r.what = api.Dangling
	if addr == 0 {
		r.what = api.Null
	}
}
