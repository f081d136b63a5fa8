package lists_test

import (
	"reflect"
	"testing"

	"lists/api"
	"lists/lists"
)

func start(t *testing.T, s string, store, cells []int) *lists.Run {
	t.Helper()
	r, e := load(t, s).Start(store, cells)
	if e != api.OK || r == nil {
		t.Fatalf("P6: Start of %q with %v, %v = %v, %d", s, store, cells, r, e)
	}
	return r
}

func step(t *testing.T, r *lists.Run, choices ...int) {
	t.Helper()
	for _, c := range choices {
		if e := r.Step(c); e != api.OK {
			t.Fatalf("P7: Step(%d) = %d", c, e)
		}
	}
}

func checkState(t *testing.T, r *lists.Run, node, what int, store, cells []int) {
	t.Helper()
	want := api.State{Node: node, What: what, Store: store, Cells: cells}
	if s := r.State(); !reflect.DeepEqual(s, want) {
		t.Errorf("P7, P8: %+v, want %+v", s, want)
	}
}

func TestP7Instructions(t *testing.T) {
	none := []int{}
	for _, c := range []struct {
		s            string
		store, cells []int
		choice       int
		node, what   int
		store2       []int
		cells2       []int
	}{
		{"pre emp { x = nil; skip; }", []int{7}, nil, 0, 1, api.Going, []int{0}, none},
		{"pre emp { x = y; skip; }", []int{7, 8}, nil, 0, 1, api.Going, []int{8, 8}, none},
		{"pre emp { skip; skip; }", []int{}, nil, 1, 1, api.Going, none, none},
		{"pre emp { x = new; skip; }", []int{7}, nil, 9, 1, api.Going, []int{9}, []int{9, 0}},
		{"pre y -> y { x = new; skip; }", []int{9, 7}, []int{9, 9}, 7, 1, api.Going, []int{9, 7}, []int{7, 0, 9, 9}},
		{"pre x -> A { y = x.n; skip; }", []int{7, 0}, []int{7, 5}, 0, 1, api.Going, []int{7, 5}, []int{7, 5}},
		{"pre x -> A { x = x.n; skip; }", []int{7}, []int{7, 5}, 0, 1, api.Going, []int{5}, []int{7, 5}},
		{"pre x -> A * y = y { x.n = y; skip; }", []int{7, 3}, []int{7, 5}, 0, 1, api.Going, []int{7, 3}, []int{7, 3}},
		{"pre x -> A { x.n = x; skip; }", []int{7}, []int{7, 5}, 0, 1, api.Going, []int{7}, []int{7, 7}},
		{"pre x -> A { x.n = nil; skip; }", []int{7}, []int{7, 5}, 0, 1, api.Going, []int{7}, []int{7, 0}},
		{"pre x -> A { free x; skip; }", []int{7}, []int{7, 5}, 0, 1, api.Going, []int{7}, none},
		{"pre emp { y = x.n; skip; }", []int{4, 0}, nil, 0, 0, api.Null, []int{4, 0}, none},
		{"pre emp { y = x.n; skip; }", []int{4, 6}, nil, 0, 0, api.Dangling, []int{4, 6}, none},
		{"pre emp { x.n = y; skip; }", []int{0, 6}, nil, 0, 0, api.Null, []int{0, 6}, none},
		{"pre emp { x.n = y; skip; }", []int{6, 0}, nil, 0, 0, api.Dangling, []int{6, 0}, none},
		{"pre emp { x.n = nil; skip; }", []int{0}, nil, 0, 0, api.Null, []int{0}, none},
		{"pre emp { x.n = nil; skip; }", []int{6}, nil, 0, 0, api.Dangling, []int{6}, none},
		{"pre emp { free x; skip; }", []int{0}, nil, 0, 0, api.Null, []int{0}, none},
		{"pre y -> nil { free x; skip; }", []int{5, 6}, []int{5, 0}, 0, 0, api.Dangling, []int{5, 6}, []int{5, 0}},
	} {
		r := start(t, c.s, c.store, c.cells)
		step(t, r, c.choice)
		checkState(t, r, c.node, c.what, c.store2, c.cells2)
	}
}

func TestP7Tests(t *testing.T) {
	for _, c := range []struct {
		test   string
		store  []int
		choice int
		so     bool
	}{
		{"x = y", []int{4, 4}, 0, true}, {"x = y", []int{4, 5}, 1, false}, {"x != y", []int{4, 5}, 0, true}, {"x != y", []int{4, 4}, 1, false},
		{"x = nil", []int{0, 0}, 0, true}, {"x = nil", []int{3, 0}, 1, false}, {"x != nil", []int{3, 0}, 0, true}, {"x != nil", []int{0, 3}, 1, false}, {"x = x", []int{3, 0}, 0, true}, {"x != x", []int{3, 0}, 1, false},
		{"*", []int{0, 0}, 1, true}, {"*", []int{0, 0}, 0, false}, {"*", []int{0, 0}, -1, true}, {"*", []int{0, 0}, -2, false}, {"*", []int{0, 0}, 1<<63 - 1, true}, {"*", []int{0, 0}, -1 << 63, false}, {"*", []int{0, 0}, -1<<63 + 1, true},
	} {
		for _, b := range []struct {
			block         string
			so, otherwise int
		}{
			{"if (T) { skip; } skip;", 1, 2}, {"if (T) { } skip;", 1, 1}, {"if (T) { skip; } else { skip; } skip;", 1, 3}, {"if (T) { } else { skip; } skip;", 1, 2}, {"if (T) { skip; skip; } else { } skip;", 1, 4}, {"while (T) { skip; } skip;", 1, 3}, {"while (T) { } skip;", 1, 2},
		} {
			r := start(t, "pre x = x * y = y { "+replace(b.block, c.test)+" }", c.store, nil)
			step(t, r, c.choice)
			want := b.otherwise
			if c.so {
				want = b.so
			}
			checkState(t, r, want, api.Going, c.store, []int{})
		}
	}
}

func replace(block, test string) string {
	for i := 0; i < len(block); i++ {
		if block[i] == 'T' {
			return block[:i] + test + block[i+1:]
		}
	}
	return block
}

// walk: the nodes that a run comes by.
func walk(t *testing.T, s string, store, cells, choices []int) []int {
	t.Helper()
	r := start(t, s, store, cells)
	nodes := []int{r.State().Node}
	for _, c := range choices {
		step(t, r, c)
		nodes = append(nodes, r.State().Node)
	}
	return nodes
}

func TestP7Ways(t *testing.T) {
	for _, c := range []struct {
		s       string
		choices []int
		want    []int
	}{
		{"pre emp { if (*) { skip; } else { skip; skip; } skip; }", []int{1, 0, 0, 0}, []int{0, 1, 2, 5, 6}},
		{"pre emp { if (*) { skip; } else { skip; skip; } skip; }", []int{0, 0, 0, 0}, []int{0, 3, 4, 5, 6}},
		{"pre emp { if (*) { } else { } }", []int{1, 0}, []int{0, 1, 2}},
		{"pre emp { if (*) { } else { } }", []int{0}, []int{0, 2}},
		{"pre emp { while (*) { skip; } skip; }", []int{1, 0, 0, 1, 0, 0, 0, 0}, []int{0, 1, 2, 0, 1, 2, 0, 3, 4}},
		{"pre emp { while (*) { } }", []int{1, 1, 1, 1, 0}, []int{0, 1, 0, 1, 0, 2}},
		{"pre emp { while (*) { while (*) { skip; } if (*) { } } }", []int{1, 1, 1, 1, 0, 1, 1, 0}, []int{0, 1, 2, 3, 1, 4, 5, 0, 6}},
		{"pre emp { while (*) { if (*) { skip; } else { skip; } } }", []int{1, 1, 0, 0, 0, 1, 0, 0, 0}, []int{0, 1, 2, 3, 5, 0, 1, 4, 5, 0}},
	} {
		if got := walk(t, c.s, []int{}, nil, c.choices); !reflect.DeepEqual(got, c.want) {
			t.Errorf("P7: %q by %v: nodes %v, want %v", c.s, c.choices, got, c.want)
		}
	}
}

func TestP7New(t *testing.T) {
	r := start(t, "pre y -> nil { x = new; x = new; free y; x = new; }", []int{5, 0}, []int{5, 0})
	for _, c := range []int{0, -1, -1 << 63, 5, api.MaxAddr + 1, 1<<63 - 1} {
		if e := r.Step(c); e != api.ErrArg {
			t.Errorf("P7: Step(%d) = %d", c, e)
		}
		checkState(t, r, 0, api.Going, []int{5, 0}, []int{5, 0})
	}
	step(t, r, 1)
	checkState(t, r, 1, api.Going, []int{5, 1}, []int{1, 0, 5, 0})
	if e := r.Step(1); e != api.ErrArg {
		t.Errorf("P7: Step(1) where a cell is = %d", e)
	}
	step(t, r, api.MaxAddr, 0)
	checkState(t, r, 3, api.Going, []int{5, api.MaxAddr}, []int{1, 0, api.MaxAddr, 0})
	step(t, r, 5)
	checkState(t, r, 4, api.Leaks, []int{5, 5}, []int{1, 0, 5, 0, api.MaxAddr, 0})
}

// A run that does not go on any more stays as it is, whatever is chosen.
func TestP7Ended(t *testing.T) {
	for _, c := range []struct {
		s            string
		store, cells []int
		steps        int
	}{
		{"pre emp { }", []int{}, nil, 0},
		{"pre A -> nil { }", []int{}, []int{4, 0}, 0},
		{"pre emp { skip; }", []int{}, nil, 1},
		{"pre emp { free x; x = new; }", []int{0}, nil, 1},
		{"pre emp { free x; x = new; }", []int{3}, nil, 1},
	} {
		r := start(t, c.s, c.store, c.cells)
		for i := 0; i < c.steps; i++ {
			step(t, r, 0)
		}
		before := r.State()
		if before.What == api.Going {
			t.Errorf("P7: %q goes on", c.s)
		}
		step(t, r, 0, 1, -1, 7, 1<<40)
		if after := r.State(); !reflect.DeepEqual(before, after) {
			t.Errorf("P7: %q at its end: %+v, then %+v", c.s, before, after)
		}
	}
}

func TestP7End(t *testing.T) {
	for _, c := range []struct {
		s            string
		store, cells []int
		what         int
	}{
		{"pre emp { }", []int{}, nil, api.Done},
		{"pre x -> nil { }", []int{4}, []int{4, 0}, api.Done},
		{"pre A -> nil { }", []int{}, []int{4, 0}, api.Leaks},
		{"pre ls(x,nil) { }", []int{4}, []int{2, 0, 4, 6, 6, 2}, api.Done},
		{"pre ls(A,x) * x -> nil { }", []int{4}, []int{2, 4, 4, 0}, api.Leaks},
		{"pre ls(A,A) * x = x { }", []int{9}, []int{2, 4, 4, 2}, api.Leaks},
		{"pre ls(A,A) * x = x { }", []int{4}, []int{2, 4, 4, 2}, api.Done},
		{"pre x = x * A -> nil { }", []int{0}, []int{4, 0}, api.Leaks},
		{"pre x -> A * y -> A * A -> nil { }", []int{1, 2}, []int{1, 3, 2, 3, 3, 0}, api.Done},
	} {
		r := start(t, c.s, c.store, c.cells)
		if s := r.State(); s.What != c.what || s.Node != 0 {
			t.Errorf("P7: %q with %v, %v: %+v, want %d", c.s, c.store, c.cells, s, c.what)
		}
	}
	// A cell that is lost on the way is told at the end alone.
	r := start(t, "pre x -> nil { x = nil; skip; }", []int{4}, []int{4, 0})
	step(t, r, 0)
	checkState(t, r, 1, api.Going, []int{0}, []int{4, 0})
	step(t, r, 0)
	checkState(t, r, 2, api.Leaks, []int{0}, []int{4, 0})
}

// The worked example of the document.
func TestExampleRun(t *testing.T) {
	s := "pre ls(x,nil) { y = nil; while (x != nil) { z = x.n; x.n = y; y = x; x = z; } }"
	p := load(t, s)
	if p.Vars() != 3 || p.Nodes() != 8 {
		t.Errorf("P4: %d variables, %d nodes", p.Vars(), p.Nodes())
	}
	r := start(t, s, []int{3, 0, 0}, []int{3, 5, 5, 0})
	checkState(t, r, 0, api.Going, []int{3, 0, 0}, []int{3, 5, 5, 0})
	step(t, r, make([]int, 13)...)
	checkState(t, r, 1, api.Going, []int{0, 5, 0}, []int{3, 0, 5, 3})
	step(t, r, 0)
	checkState(t, r, 7, api.Done, []int{0, 5, 0}, []int{3, 0, 5, 3})
	if r, e := p.Start([]int{3, 0, 0}, []int{3, 5}); r != nil || e != api.ErrPre {
		t.Errorf("P6: Start with the cells 3, 5 = %v, %d", r, e)
	}
}

// Cells are told by rising address, however they came, and there may be many.
func TestP8ManyCells(t *testing.T) {
	r := start(t, "pre emp { x = nil; while (*) { y = new; y.n = x; x = y; } }", []int{0, 0}, nil)
	step(t, r, 0)
	count := 500
	for i := 0; i < count; i++ {
		step(t, r, 1, 1+i*37%count, 0, 0, 0)
	}
	step(t, r, 0)
	s := r.State()
	if s.What != api.Done || len(s.Cells) != 2*count {
		t.Fatalf("P8: %d, %d numbers", s.What, len(s.Cells))
	}
	for i := 0; i < count; i++ {
		if s.Cells[2*i] != i+1 {
			t.Fatalf("P8: address %d at place %d", s.Cells[2*i], i)
		}
	}
}

func TestP8NeverNil(t *testing.T) {
	for _, store := range [][]int{nil, {}} {
		r := start(t, "pre emp { }", store, nil)
		s := r.State()
		if s.Store == nil || s.Cells == nil {
			t.Errorf("P8: %#v", s)
		}
	}
	r := start(t, "pre x -> nil { free x; }", []int{4}, []int{4, 0})
	step(t, r, 0)
	if s := r.State(); s.Cells == nil || len(s.Cells) != 0 {
		t.Errorf("P8: %#v", s)
	}
}
