package lists_test

import (
	"testing"

	"lists/api"
	"lists/lists"
)

type begin struct {
	s            string
	store, cells []int
	e            api.Errno
}

func checkStart(t *testing.T, c begin) {
	t.Helper()
	r, e := load(t, c.s).Start(c.store, c.cells)
	if e != c.e || (r == nil) != (e != api.OK) {
		t.Errorf("Start of %q with %v, %v = %v, %d, want %d", c.s, c.store, c.cells, r, e, c.e)
	}
}

func TestP5(t *testing.T) {
	for _, c := range []begin{
		{"pre emp { }", nil, nil, api.OK},
		{"pre emp { }", nil, []int{1, 0}, api.ErrPre},
		{"pre x = y { }", []int{5, 5}, nil, api.OK},
		{"pre x = y { }", []int{5, 6}, nil, api.ErrPre},
		{"pre x != y { }", []int{5, 6}, nil, api.OK},
		{"pre x != y { }", []int{5, 5}, nil, api.ErrPre},
		{"pre x = nil { }", []int{0}, nil, api.OK},
		{"pre x = A * y = A { }", []int{5, 6}, nil, api.ErrPre},
		{"pre x != A * y != A { }", []int{5, 6}, nil, api.OK},
		{"pre x != x { }", []int{5}, nil, api.ErrPre},
		{"pre A != A { }", nil, nil, api.ErrPre},
		{"pre x -> y { }", []int{5, 6}, []int{5, 6}, api.OK},
		{"pre x -> y { }", []int{5, 6}, []int{5, 7}, api.ErrPre},
		{"pre x -> y { }", []int{5, 6}, []int{6, 6}, api.ErrPre},
		{"pre nil -> A { }", nil, []int{5, 6}, api.ErrPre},
		{"pre x -> A * y -> B { }", []int{5, 5}, []int{5, 6}, api.ErrPre},
		{"pre x -> nil * x = nil { }", []int{0}, nil, api.ErrPre},
		{"pre ls(x,y) { }", []int{5, 5}, nil, api.ErrPre},
		{"pre ls(x,y) { }", []int{5, 5}, []int{5, 5}, api.OK},
		{"pre ls(x,y) { }", []int{5, 7}, []int{5, 6, 6, 7}, api.OK},
		{"pre ls(x,y) { }", []int{5, 7}, []int{5, 6, 6, 7, 7, 0}, api.ErrPre},
		{"pre ls(x,y) { }", []int{5, 7}, []int{5, 7, 7, 8, 8, 7}, api.OK},
		{"pre ls(x,A) * A != nil { }", []int{5}, []int{5, 6, 6, 0}, api.ErrPre},
		{"pre ls(x,A) * ls(y,A) * ls(A,nil) { }", []int{1, 2}, []int{1, 3, 2, 4, 3, 4, 4, 5, 5, 0}, api.OK},
		{"pre ls(x,A) * ls(y,A) * ls(A,nil) { }", []int{1, 2}, []int{1, 3, 2, 4, 3, 0, 4, 0}, api.ErrPre},
		{"pre ls(A,B) * ls(C,D) * ls(E,F) * ls(G,H) { }", nil, []int{1, 0, 2, 0, 3, 0, 4, 0}, api.OK},
		{"pre ls(A,B) * ls(C,D) * ls(E,F) * ls(G,H) { }", nil, []int{1, 0, 2, 0, 3, 0}, api.ErrPre},
		{"pre ls(A,B) * ls(C,D) * ls(E,F) * ls(G,H) { }", nil, []int{1, 0, 2, 0, 3, 0, 4, 0, 5, 0}, api.ErrPre},
	} {
		checkStart(t, c)
	}
}

func TestP6Errors(t *testing.T) {
	eight := []int{1, 2, 2, 3, 3, 4, 4, 5, 5, 6, 6, 7, 7, 8, 8, 0}
	nine := append(append([]int{}, eight...), 9, 0)
	top := api.MaxAddr
	for _, c := range []begin{
		{"pre ls(x,nil) { }", []int{1}, eight, api.OK},
		{"pre ls(x,nil) { }", []int{1}, nine, api.ErrLong},
		{"pre ls(x,nil) { }", []int{1}, nine[:17], api.ErrLong},
		{"pre ls(x,nil) { }", nil, make([]int, 1000), api.ErrLong},
		{"pre ls(x,nil) { }", []int{1}, eight[:15], api.ErrArg},
		{"pre ls(x,nil) { }", []int{1}, eight[:1], api.ErrArg},
		{"pre ls(x,nil) { }", nil, eight, api.ErrArg},
		{"pre ls(x,nil) { }", []int{1, 1}, eight, api.ErrArg},
		{"pre ls(x,nil) { }", []int{-1}, eight, api.ErrArg},
		{"pre emp { }", nil, nil, api.OK},
		{"pre emp { }", []int{0}, nil, api.ErrArg},
		{"pre emp { x = y; }", []int{top, 0}, nil, api.OK},
		{"pre emp { x = y; }", []int{0, top + 1}, nil, api.ErrArg},
		{"pre emp { x = y; }", []int{0, -1 << 63}, nil, api.ErrArg},
		{"pre emp { x = y; }", []int{1<<63 - 1, 0}, nil, api.ErrArg},
		{"pre A -> B { }", nil, []int{top, top}, api.OK},
		{"pre A -> B { }", nil, []int{top + 1, 0}, api.ErrArg},
		{"pre A -> B { }", nil, []int{1, top + 1}, api.ErrArg},
		{"pre A -> B { }", nil, []int{1, -1}, api.ErrArg},
		{"pre A -> B { }", nil, []int{1, 0}, api.OK},
		{"pre A -> B { }", nil, []int{0, 1}, api.ErrArg},
		{"pre A -> B { }", nil, []int{-5, 1}, api.ErrArg},
		{"pre A -> B * C -> D { }", nil, []int{1, 0, 2, 0}, api.OK},
		{"pre A -> B * C -> D { }", nil, []int{2, 0, 1, 0}, api.ErrArg},
		{"pre A -> B * C -> D { }", nil, []int{2, 0, 2, 0}, api.ErrArg},
		{"pre A -> B * C -> D { }", nil, []int{1, 0, 2, 0, 3, 0}, api.ErrPre},
		// What is named first comes first.
		{"pre nil != nil { x = nil; }", nil, nine, api.ErrLong},
		{"pre nil != nil { x = nil; }", nil, nil, api.ErrArg},
		{"pre nil != nil { x = nil; }", []int{0}, nil, api.ErrPre},
	} {
		checkStart(t, c)
	}
}

func TestP6Begins(t *testing.T) {
	p := load(t, "pre x -> y { skip; }")
	r, _ := p.Start([]int{4, 9}, []int{4, 9})
	checkState(t, r, 0, api.Going, []int{4, 9}, []int{4, 9})
}

// A formula of many names, on as many cells as there may be, must not take long.
func TestP1StartEnds(t *testing.T) {
	line := []int{1, 2, 2, 3, 3, 4, 4, 5, 5, 6, 6, 7, 7, 8, 8, 1}
	for _, f := range []string{
		"ls(A,B)*ls(C,D)*ls(E,F)*ls(G,H)", "ls(A,B)*ls(C,D)*ls(E,F)*G->H", "A->B*C->D*E->F*G->H*ls(B,C)*ls(D,E)*ls(F,G)*ls(H,A)", "ls(A,B)*ls(B,C)*ls(C,D)*ls(D,E)*ls(E,F)*ls(F,G)*ls(G,A)",
		"A->B*B->C*C->D*D->E*E->F*F->G*G->H*H->A", "ls(A,G)*ls(B,H)*ls(C,G)*ls(D,H)*ls(E,G)*ls(F,H)",
	} {
		for _, last := range []string{"", "*nil!=nil", "*A=nil", "*H!=H"} {
			p, e := lists.Load("pre " + f + last + "{}")
			if e != api.OK {
				t.Fatalf("%q: %d", f+last, e)
			}
			r, e := p.Start(nil, line)
			if last != "" && (r != nil || e != api.ErrPre) {
				t.Errorf("P5: %q: %d", f+last, e)
			}
		}
	}
}
