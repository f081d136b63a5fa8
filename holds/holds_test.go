package holds

import (
	"fmt"
	"strings"
	"testing"

	"lists/api"
	"lists/cells"
	"lists/syntax"
)

// next is a small generator of numbers, so that the tests are always the same.
func next(seed *uint32, below int) int {
	*seed = *seed*1664525 + 1013904223
	return int(*seed>>8) % below
}

func read(t *testing.T, formula string) *syntax.Program {
	t.Helper()
	p, e := syntax.Read("pre " + formula + " { }")
	if e != api.OK {
		t.Fatalf("%q: %d", formula, e)
	}
	return p
}

func heapOf(numbers []int) *cells.Cells {
	var c cells.Cells
	for i := 0; i < len(numbers); i += 2 {
		c.Add(numbers[i], numbers[i+1])
	}
	return &c
}

func TestHolds(t *testing.T) {
	for _, c := range []struct {
		formula string
		store   []int
		numbers []int
		want    bool
	}{
		{"emp", nil, nil, true},
		{"emp", nil, []int{1, 0}, false},
		{"emp * emp", nil, nil, true},
		{"nil = nil", nil, nil, true},
		{"nil != nil", nil, nil, false},
		{"x = nil", []int{0}, nil, true},
		{"x = nil", []int{1}, nil, false},
		{"x = y", []int{3, 3}, nil, true},
		{"x = y", []int{3, 4}, nil, false},
		{"x = A * A = B * B = y", []int{3, 4}, nil, false},
		{"x = A * B = y * A = B", []int{4, 4}, nil, true},
		{"x = A * B = y * A != B", []int{4, 4}, nil, false},
		{"A != A", nil, nil, false},
		{"A = B * B != A", nil, nil, false},
		{"A != B * B != C * C != A * A != nil * B != nil * C != nil", nil, nil, true},
		{"A != x * A != nil", []int{0}, nil, true},
		{"x -> nil", []int{2}, []int{2, 0}, true},
		{"x -> nil", []int{2}, []int{2, 2}, false},
		{"x -> nil", []int{2}, nil, false},
		{"x -> nil", []int{2}, []int{2, 0, 3, 0}, false},
		{"nil -> nil", nil, []int{1, 0}, false},
		{"x -> x", []int{2}, []int{2, 2}, true},
		{"x -> A * A != nil", []int{2}, []int{2, 9}, true},
		{"x -> A * A != nil", []int{2}, []int{2, 0}, false},
		{"x -> A * y -> A", []int{2, 3}, []int{2, 3, 3, 3}, true},
		{"x -> A * x -> A", []int{2}, []int{2, 3}, false},
		{"A -> B * C -> D", nil, []int{2, 0, 3, 0}, true},
		{"A -> B * C -> D * A = C", nil, []int{2, 0, 3, 0}, false},
		{"A -> B * B -> A * A = B", nil, []int{2, 2}, false},
		{"A -> B * C -> D * E -> F * B = C * D = E", nil, []int{2, 4, 3, 0, 4, 3}, true},
		{"A -> B * C -> D * E -> F * B = C * D = E", nil, []int{2, 4, 3, 3, 4, 0}, false},
		{"ls(x,nil)", []int{0}, nil, false},
		{"ls(x,nil)", []int{3}, []int{3, 0}, true},
		{"ls(x,nil)", []int{3}, []int{1, 0, 3, 1}, true},
		{"ls(x,nil)", []int{3}, []int{1, 0, 3, 0}, false},
		{"ls(x,nil)", []int{3}, []int{3, 3}, false},
		{"ls(x,x)", []int{3}, []int{3, 3}, true},
		{"ls(x,x)", []int{3}, []int{3, 4, 4, 3}, true},
		{"ls(x,x)", []int{3}, []int{3, 4, 4, 4}, false},
		{"ls(x,y)", []int{3, 9}, []int{3, 9}, true},
		{"ls(x,y)", []int{3, 9}, []int{3, 8}, false},
		{"ls(nil,x)", []int{3}, []int{3, 0}, false},
		{"ls(nil,nil)", nil, nil, false},
		{"ls(A,A)", nil, []int{3, 4, 4, 5, 5, 3}, true},
		{"ls(A,A)", nil, []int{3, 4, 4, 5, 5, 4}, false},
		{"ls(A,B)", nil, []int{3, 4, 4, 5, 5, 4}, true},
		{"ls(A,B) * B -> A", nil, []int{3, 4, 4, 5, 5, 3}, true},
		{"ls(x,A) * ls(A,B) * ls(B,nil)", []int{1}, []int{1, 2, 2, 3, 3, 0}, true},
		{"ls(x,A) * ls(A,B) * ls(B,nil)", []int{1}, []int{1, 2, 2, 0}, false},
		{"ls(x,nil) * ls(y,nil)", []int{1, 2}, []int{1, 2, 2, 0}, false},
		{"ls(x,nil) * ls(y,nil)", []int{1, 2}, []int{1, 0, 2, 0}, true},
	} {
		p := read(t, c.formula)
		if got := Holds(p.Pre, c.store, heapOf(c.numbers)); got != c.want {
			t.Errorf("P5: %q of %v, %v: %v", c.formula, c.store, c.numbers, got)
		}
	}
}

// A list may run through its own end, and then come back to it: 3, 5, 7, the
// last of which holds 5.
func TestListThroughItsEnd(t *testing.T) {
	p := read(t, "ls(x,y)")
	if !Holds(p.Pre, []int{3, 5}, heapOf([]int{3, 5, 5, 7, 7, 5})) {
		t.Error("P5: ls(x,y) with y in it")
	}
	if Holds(p.Pre, []int{3, 5}, heapOf([]int{3, 5, 5, 7, 7, 3})) {
		t.Error("P5: ls(x,y) whose last holds x")
	}
}

// oracle does what P5 says to the letter: all values, all sets of cells.
type oracle struct {
	atoms   []syntax.Atom
	store   []int
	hidden  []int
	numbers []int
}

func (o *oracle) value(t syntax.Term) int {
	switch t.Kind {
	case syntax.Var:
		return o.store[t.Index]
	case syntax.Hidden:
		return o.hidden[t.Index]
	}
	return 0
}

// sets: the sets of cells that an atom may have, as bits.
func (o *oracle) sets(a syntax.Atom) []int {
	from, to := o.value(a.Left), o.value(a.Right)
	sets, set, at := []int{}, 0, from
	for {
		found := -1
		for i := 0; i < len(o.numbers); i += 2 {
			if o.numbers[i] == at && set&(1<<(i/2)) == 0 {
				found = i
			}
		}
		if found < 0 {
			return sets
		}
		set |= 1 << (found / 2)
		at = o.numbers[found+1]
		if at == to {
			sets = append(sets, set)
		}
		if a.Kind == syntax.Points {
			return sets
		}
	}
}

func (o *oracle) parts(k, taken int) bool {
	if k == len(o.atoms) {
		return taken == 1<<(len(o.numbers)/2)-1
	}
	a := o.atoms[k]
	switch a.Kind {
	case syntax.Emp:
		return o.parts(k+1, taken)
	case syntax.Equal:
		return o.value(a.Left) == o.value(a.Right) && o.parts(k+1, taken)
	case syntax.Unequal:
		return o.value(a.Left) != o.value(a.Right) && o.parts(k+1, taken)
	}
	for _, set := range o.sets(a) {
		if set&taken == 0 && o.parts(k+1, taken|set) {
			return true
		}
	}
	return false
}

func (o *oracle) holds(k int, values []int) bool {
	if k == len(o.hidden) {
		return o.parts(0, 0)
	}
	for _, v := range append([]int{1000 + k}, values...) {
		o.hidden[k] = v
		if o.holds(k+1, values) {
			return true
		}
	}
	return false
}

// formula makes a text of some atoms, with or without hidden names.
func formula(seed *uint32) string {
	names := []string{"x", "y", "A", "B", "C", "x", "A", "nil"}
	atoms := []string{}
	count := 1 + next(seed, 4)
	for i := 0; i < count; i++ {
		a, b := names[next(seed, 7)], names[next(seed, 8)]
		form := []string{"emp", "%s = %s", "%s != %s", "%s -> %s", "%s -> %s", "ls(%s,%s)", "ls(%s,%s)", "ls(%s,%s)"}[next(seed, 8)]
		if form != "emp" {
			form = fmt.Sprintf(form, a, b)
		}
		atoms = append(atoms, form)
	}
	return strings.Join(atoms, " * ")
}

func TestHoldsIsWhatTheDocumentSays(t *testing.T) {
	seed := uint32(1)
	held := 0
	for i := 0; i < 40000; i++ {
		text := "x = x * y = y * " + formula(&seed)
		p := read(t, text)
		store := []int{next(&seed, 6), next(&seed, 6)}
		numbers := []int{}
		values := []int{0, store[0], store[1]}
		for a := 1; a <= 5 && len(numbers) < 8; a++ {
			if next(&seed, 2) == 0 {
				numbers = append(numbers, a, next(&seed, 7))
				values = append(values, a, numbers[len(numbers)-1])
			}
		}
		o := &oracle{atoms: p.Pre, store: store, hidden: make([]int, 3), numbers: numbers}
		want := o.holds(0, values)
		if want {
			held++
		}
		if got := Holds(p.Pre, store, heapOf(numbers)); got != want {
			t.Fatalf("P5: %q of %v, %v: %v, want %v", text, store, numbers, got, want)
		}
	}
	if held < 1000 {
		t.Errorf("only %d formulas held: the test says little", held)
	}
}

// The worst that texts and cells can do must not take long: nothing holds here,
// and that is seen only when all cells are dealt out.
func TestHoldsEndsSoon(t *testing.T) {
	heads := "ABCDEFGH"
	for atoms := 1; atoms <= 8; atoms++ {
		list := []string{}
		for i := 0; i < atoms; i++ {
			end := "A"
			if i < 8-atoms {
				end = string(heads[atoms+i])
			}
			list = append(list, fmt.Sprintf("ls(%c,%s)", heads[i], end))
		}
		p := read(t, strings.Join(list, " * ")+" * nil != nil")
		line := []int{1, 2, 2, 3, 3, 4, 4, 5, 5, 6, 6, 7, 7, 8, 8, 1}
		if Holds(p.Pre, nil, heapOf(line)) {
			t.Errorf("P5: %v", list)
		}
	}
}
