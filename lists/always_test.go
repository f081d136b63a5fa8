package lists_test

import (
	"reflect"
	"strings"
	"testing"

	"lists/api"
	"lists/lists"
)

// next is a small generator of numbers, so that the tests are always the same.
func next(seed *uint32, below int) int {
	*seed = *seed*1664525 + 1013904223
	return int(*seed>>8) % below
}

// everything: all calls of a program and its runs, with odd arguments.
func everything(p *lists.Program, seed *uint32) {
	p.Text()
	p.Vars()
	p.Nodes()
	p.Verdict()
	p.Alarms()
	for _, n := range []int{-1 << 63, -1, 0, 1, p.Nodes(), 1<<63 - 1} {
		p.Invariant(n)
	}
	p.Start(nil, nil)
	p.Start([]int{-1 << 63}, []int{1<<63 - 1, -1 << 63})
	for i := 0; i < 20; i++ {
		store := make([]int, p.Vars())
		for k := range store {
			store[k] = next(seed, 4)
		}
		cells := []int{}
		for a := 1; a < 4; a++ {
			if next(seed, 2) == 0 {
				cells = append(cells, a, next(seed, 4))
			}
		}
		r, e := p.Start(store, cells)
		if e != api.OK {
			continue
		}
		for k := 0; k < 60; k++ {
			r.Step(next(seed, 12) - 2)
			r.State()
		}
	}
}

func TestP1AnyText(t *testing.T) {
	seed := uint32(3)
	words := strings.Fields("pre emp ls nil new free skip if else while x y n A B -> != = * ( ) , ; { } . # \t - !")
	read := 0
	for i := 0; i < 30000; i++ {
		list := []string{}
		count := next(&seed, 14)
		for k := 0; k < count; k++ {
			list = append(list, words[next(&seed, len(words))])
		}
		s := strings.Join(list, " ")
		if next(&seed, 2) == 0 {
			s = "pre emp { " + s + " }"
		}
		p, e := lists.Load(s)
		if (p == nil) != (e != api.OK) {
			t.Fatalf("P1: Load(%q) = %v, %d", s, p, e)
		}
		lists.Entails(s, s)
		if p != nil {
			read++
			everything(p, &seed)
		}
	}
	if read < 100 {
		t.Errorf("only %d texts were programs: the test says little", read)
	}
}

// program makes a text that is always a program.
func program(seed *uint32) string {
	atoms := []string{"emp", "x -> A", "ls(x,y)", "y = y", "x != B", "ls(A,B)", "y -> nil"}
	s := "pre " + atoms[next(seed, len(atoms))] + " * " + atoms[next(seed, len(atoms))] + " {"
	return s + commands(seed, 3) + "}"
}

func commands(seed *uint32, depth int) string {
	plain := []string{"x = nil;", "x = y;", "y = x.n;", "x.n = y;", "y.n = nil;", "x = new;", "y = new;", "free x;", "skip;"}
	tests := []string{"*", "x = y", "x != nil", "y = nil", "x != y"}
	s := ""
	count := next(seed, 4)
	for i := 0; i < count; i++ {
		block := ""
		if depth > 0 {
			block = "(" + tests[next(seed, len(tests))] + ") {" + commands(seed, depth-1) + "}"
		}
		switch kind := next(seed, 5); {
		case kind == 0 && depth > 0:
			s += "if " + block
		case kind == 1 && depth > 0:
			s += "while " + block
		case kind == 2 && depth > 0:
			s += "if " + block + " else {" + commands(seed, depth-1) + "}"
		default:
			s += plain[next(seed, len(plain))]
		}
	}
	return s
}

func TestP1AnyProgram(t *testing.T) {
	seed := uint32(5)
	for i := 0; i < 5000; i++ {
		s := program(&seed)
		p, e := lists.Load(s)
		if len(s) > api.MaxText {
			if p != nil || e != api.ErrLong {
				t.Fatalf("P3: Load(%q) = %v, %d", s, p, e)
			}
			continue
		}
		if e != api.OK {
			t.Fatalf("P3: Load(%q) = %d", s, e)
		}
		everything(p, &seed)
	}
}

// What did not come from Load or Start is not followed.
func TestP1Nothing(t *testing.T) {
	seed := uint32(1)
	var p *lists.Program
	everything(p, &seed)
	everything(&lists.Program{}, &seed)
	for _, r := range []*lists.Run{nil, {}} {
		if e := r.Step(1); e != api.OK {
			t.Errorf("P1: Step = %d", e)
		}
		if s := r.State(); s.Store == nil || s.Cells == nil {
			t.Errorf("P8: %#v", s)
		}
	}
}

func TestP2WhatIsHandedIn(t *testing.T) {
	p := load(t, "pre x -> A * y = y { y = x.n; x.n = nil; x = new; x = nil; }")
	room := []int{4, 7, 99}
	store := room[:2]
	cells := []int{4, 9, 98}[:2]
	r, e := p.Start(store, cells)
	if e != api.OK {
		t.Fatalf("P6: %d", e)
	}
	store[0], store[1], cells[0], cells[1] = 1, 1, 1, 1
	checkState(t, r, 0, api.Going, []int{4, 7}, []int{4, 9})
	store[0], store[1], cells[0], cells[1] = 4, 7, 4, 9
	step(t, r, 0, 0, 2, 0)
	checkState(t, r, 4, api.Leaks, []int{0, 9}, []int{2, 0, 4, 0})
	if !reflect.DeepEqual(room, []int{4, 7, 99}) || !reflect.DeepEqual(cells[:3], []int{4, 9, 98}) {
		t.Errorf("P2: what was handed in is now %v, %v", room, cells[:3])
	}
}

func TestP2WhatComesOut(t *testing.T) {
	r := start(t, "pre x -> A * y = y { x = new; free x; skip; }", []int{4, 7}, []int{4, 9})
	for i := 0; i < 4; i++ {
		s := r.State()
		if cap(s.Store) != len(s.Store) || cap(s.Cells) != len(s.Cells) {
			t.Errorf("P2: room for %d of %d, %d of %d", cap(s.Store), len(s.Store), cap(s.Cells), len(s.Cells))
		}
		again := r.State()
		for k := range s.Store {
			s.Store[k] = -7
		}
		if !reflect.DeepEqual(s.Cells, again.Cells) {
			t.Errorf("P2: the lists of one answer share memory")
		}
		for k := range s.Cells {
			s.Cells[k] = -7
		}
		if last := r.State(); !reflect.DeepEqual(last, again) {
			t.Errorf("P2: a written answer is told: %+v, was %+v", last, again)
		}
		step(t, r, 2)
	}
}

// Two runs of one program, by turns, do not touch one another, and the same
// steps lead to the same state.
func TestP2RunsAreApart(t *testing.T) {
	p := load(t, "pre x -> A { y = new; y.n = x; if (*) { free x; } x = nil; }")
	store, cells := []int{4, 0}, []int{4, 9}
	first, _ := p.Start(store, cells)
	second, _ := p.Start(store, cells)
	third, _ := p.Start(store, cells)
	step(t, first, 6)
	checkState(t, second, 0, api.Going, []int{4, 0}, []int{4, 9})
	step(t, second, 3, 0, 1, 0, 0)
	step(t, first, 0, 0, 0)
	checkState(t, second, 5, api.Done, []int{0, 3}, []int{3, 4})
	checkState(t, first, 5, api.Done, []int{0, 6}, []int{4, 9, 6, 4})
	step(t, third, 6, 0, 0, 0)
	if !reflect.DeepEqual(first.State(), third.State()) {
		t.Errorf("P2: %+v, %+v", first.State(), third.State())
	}
}
