package classes

import (
	"reflect"
	"testing"

	"lists/api"
	"lists/syntax"
)

func of(t *testing.T, formula string) *Formula {
	t.Helper()
	p, e := syntax.Read("pre " + formula + " { }")
	if e != api.OK {
		t.Fatalf("%q: %d", formula, e)
	}
	return Of(p.Pre)
}

func TestOf(t *testing.T) {
	f := of(t, "emp * x = A * y != x * A -> B * ls(y,A) * nil = B")
	x, y := f.Class[1], f.Class[2]
	null := f.Class[0]
	if f.Class[FirstHidden] != x || f.Class[FirstHidden+1] != null || x == y || x == null || y == null {
		t.Errorf("classes %v", f.Class)
	}
	if want := []Pair{{syntax.Unequal, y, x}}; !reflect.DeepEqual(f.Apart, want) {
		t.Errorf("apart %v, want %v", f.Apart, want)
	}
	if want := []Pair{{syntax.Points, x, null}, {syntax.List, y, x}}; !reflect.DeepEqual(f.Owners, want) {
		t.Errorf("owners %v, want %v", f.Owners, want)
	}
}

// Terms of which nothing is said are classes by themselves; what is said of
// equal terms goes round corners, and comes in any order.
func TestClassesGoRoundCorners(t *testing.T) {
	f := of(t, "x -> y * A = B * C = D * x = A * D = y * B = C")
	for _, i := range []int{1, 2, FirstHidden, FirstHidden + 1, FirstHidden + 2, FirstHidden + 3} {
		if f.Class[i] != f.Class[1] {
			t.Errorf("term %d is not of the class: %v", i, f.Class)
		}
	}
	for _, i := range []int{0, 3, 4, FirstHidden + 4} {
		if f.Class[i] != i {
			t.Errorf("term %d is not alone: %v", i, f.Class)
		}
	}
}

func TestFalse(t *testing.T) {
	for _, s := range []string{
		"nil != nil", "x != x", "x = y * y != x", "A = B * B = C * emp * A != C", "nil -> x", "ls(nil,x)", "ls(nil,nil)", "x = nil * x -> y", "ls(A,x) * nil = A",
		"x -> y * x -> y", "x -> y * ls(x,y)", "ls(x,x) * ls(x,x)", "x = y * x -> nil * ls(y,nil)", "A -> x * B -> x * A = C * C = B", "x = nil * x != nil",
	} {
		if !of(t, s).False() {
			t.Errorf("%q holds nowhere", s)
		}
	}
	for _, s := range []string{
		"emp", "emp * emp", "nil = nil", "x != y", "x != nil * y = nil", "x -> x", "x -> nil * y -> nil", "ls(x,x)", "ls(x,y) * ls(y,x)", "x -> y * ls(y,y)", "A -> B * B -> A", "ls(x,nil) * y = nil", "x -> A * y -> A * z != A",
	} {
		if of(t, s).False() {
			t.Errorf("%q holds somewhere", s)
		}
	}
}
