package analysis

import (
	"fmt"
	"sort"
	"strings"
	"testing"

	"lists/api"
	"lists/cells"
	"lists/holds"
	"lists/syntax"
)

// next is a small generator of numbers, so that the tests are always the same.
func next(seed *uint32, below int) int {
	*seed = *seed*1664525 + 1013904223
	return int(*seed>>8) % below
}

func read(t *testing.T, s string) *syntax.Program {
	t.Helper()
	p, e := syntax.Read(s)
	if e != api.OK {
		t.Fatalf("%q: %d", s, e)
	}
	return p
}

// world is a store and cells, for runs that do all that runs can do (P7).
type world struct {
	store []int
	heap  map[int]int
}

func (w world) copy() world {
	heap := map[int]int{}
	for a, b := range w.heap {
		heap[a] = b
	}
	return world{store: append([]int{}, w.store...), heap: heap}
}

func (w world) cells() *cells.Cells {
	c := &cells.Cells{}
	for a, b := range w.heap {
		c.Add(a, b)
	}
	return c
}

func (w world) key(node int) string {
	addrs := []int{}
	for a := range w.heap {
		addrs = append(addrs, a)
	}
	sort.Ints(addrs)
	s := fmt.Sprint(node, w.store)
	for _, a := range addrs {
		s += fmt.Sprint(" ", a, w.heap[a])
	}
	return s
}

func (w world) leaks() bool {
	reached := map[int]bool{}
	for _, v := range w.store {
		for _, there := w.heap[v]; there && !reached[v]; _, there = w.heap[v] {
			reached[v] = true
			v = w.heap[v]
		}
	}
	return len(reached) < len(w.heap)
}

// fresh: addresses that a new cell may have: each value that is in use, and one
// that is not.
func (w world) fresh() []int {
	seen := map[int]bool{}
	for _, v := range w.store {
		seen[v] = true
	}
	for a, b := range w.heap {
		seen[a], seen[b] = true, true
	}
	list := []int{}
	unused := 1
	for ; seen[unused]; unused++ {
	}
	seen[unused] = true
	for a := range seen {
		if _, there := w.heap[a]; !there && a > 0 {
			list = append(list, a)
		}
	}
	sort.Ints(list)
	return list
}

// place is a world at a node.
type place struct {
	node int
	world
}

// after tells where runs are behind a step, or what goes wrong.
func after(code *syntax.Program, p place) ([]place, int) {
	n := code.At(p.node)
	w := p.copy()
	value := 0
	if n.Arg.Kind == syntax.Var {
		value = w.store[n.Arg.Index]
	}
	target := n.Var
	if n.Op == syntax.Follow {
		target = n.Arg.Index
	}
	if n.Op == syntax.Follow || n.Op == syntax.Link || n.Op == syntax.Free {
		if w.store[target] == 0 {
			return nil, api.Null
		}
		if _, there := w.heap[w.store[target]]; !there {
			return nil, api.Dangling
		}
	}
	to := n.Next
	switch n.Op {
	case syntax.End:
		if w.leaks() {
			return nil, api.Leaks
		}
		return nil, api.Done
	case syntax.Assign:
		w.store[n.Var] = value
	case syntax.Follow:
		w.store[n.Var] = w.heap[value]
	case syntax.Link:
		w.heap[w.store[n.Var]] = value
	case syntax.Free:
		delete(w.heap, w.store[n.Var])
	case syntax.New:
		list := []place{}
		for _, a := range w.fresh() {
			v := w.copy()
			v.store[n.Var], v.heap[a] = a, 0
			list = append(list, place{to, v})
		}
		return list, api.Going
	case syntax.Either:
		return []place{{n.Next, w}, {n.Other, w}}, api.Going
	case syntax.Same, syntax.Differs:
		if (w.store[n.Var] == value) != (n.Op == syntax.Same) {
			to = n.Other
		}
	}
	return []place{{to, w}}, api.Going
}

// travels: all places that runs come to from these worlds, but no more than so
// many, and all that goes wrong there.
func travels(code *syntax.Program, begin []world, most int) ([]place, map[api.Alarm]bool) {
	seen := map[string]bool{}
	list := []place{}
	wrong := map[api.Alarm]bool{}
	visit := func(p place) {
		k := p.key(p.node)
		if !seen[k] && len(list) < most {
			seen[k] = true
			list = append(list, p)
		}
	}
	for _, w := range begin {
		visit(place{0, w})
	}
	for i := 0; i < len(list); i++ {
		further, what := after(code, list[i])
		if what != api.Going && what != api.Done {
			wrong[api.Alarm{Node: list[i].node, What: what}] = true
		}
		for _, p := range further {
			visit(p)
		}
	}
	return list, wrong
}

// all: each world that a precondition without lists holds of, but for which
// numbers it has: names get numbers as partitions do.
func all(code *syntax.Program) []world {
	count := len(code.Vars) + hidden(code.Pre)
	list := []world{}
	var fill func(values []int, most int)
	fill = func(values []int, most int) {
		if len(values) < count {
			for v := 0; v <= most+1; v++ {
				fill(append(append([]int{}, values...), v), max(most, v))
			}
			return
		}
		if w, ok := build(code, values, nil); ok {
			list = append(list, w)
		}
	}
	fill(nil, 0)
	return list
}

// build makes a world of values for the variables and hidden names; seed, if it
// is there, says how many cells lists have and where.
func build(code *syntax.Program, values []int, seed *uint32) (world, bool) {
	w := world{store: values[:len(code.Vars)], heap: map[int]int{}}
	value := func(t syntax.Term) int {
		switch t.Kind {
		case syntax.Var:
			return values[t.Index]
		case syntax.Hidden:
			return values[len(code.Vars)+t.Index]
		}
		return 0
	}
	for _, a := range code.Pre {
		if a.Kind != syntax.Points && a.Kind != syntax.List {
			continue
		}
		at, end := value(a.Left), value(a.Right)
		for more := 0; a.Kind == syntax.List && more < 3 && next(seed, 2) == 0; more++ {
			to := 1 + next(seed, 9)
			if _, there := w.heap[at]; there || at == 0 {
				return w, false
			}
			w.heap[at] = to
			at = to
		}
		if _, there := w.heap[at]; there || at == 0 {
			return w, false
		}
		w.heap[at] = end
	}
	return w, holds.Holds(code.Pre, w.store, w.cells())
}

// some: worlds that a precondition holds of, found by trying.
func some(code *syntax.Program, seed *uint32, tries int) []world {
	list := []world{}
	for i := 0; i < tries; i++ {
		values := []int{}
		for k := 0; k < len(code.Vars)+hidden(code.Pre); k++ {
			values = append(values, next(seed, 7))
		}
		if w, ok := build(code, values, seed); ok {
			list = append(list, w)
		}
	}
	return list
}

// atoms reads what is known at a node from its text.
func atoms(t *testing.T, code *syntax.Program, text string) []syntax.Atom {
	t.Helper()
	s := ""
	for _, v := range code.Vars {
		s += fmt.Sprintf("%c=%c*", v, v)
	}
	// Too many hidden names for a text are no fault here: they are read one by one.
	list, _, e := syntax.ReadTwo(strings.ReplaceAll(s+text, " ", ""), "emp")
	if e == api.ErrLong || e == api.ErrNames {
		return nil
	}
	if e != api.OK {
		t.Fatalf("P11: %q: %d", text, e)
	}
	return list
}
