package classes

import (
	"reflect"
	"testing"

	"lists/api"
	"lists/syntax"
)

func of(t *testing.T, formula string) *Formula {
	t.Helper()
	p, e := syntax.Read("pre " + formula + " { }")
	if e != api.OK {
		t.Fatalf("%q: %d", formula, e)
	}
	return Of(p.Pre)
}

func TestOf(t *testing.T) {
	f := of(t, "emp * x = A * y != x * A -> B * ls(y,A) * nil = B")
	x, y := f.Class[1], f.Class[2]
	null := f.Class[0]
	if x == y || x == null || y == null {
		t.Errorf("classes %v", f.Class)
	}
	if want := []Pair{{syntax.Unequal, y, x}}; !reflect.DeepEqual(f.Apart, want) {
		t.Errorf("apart %v, want %v", f.Apart, want)
	}
	if want := []Pair{{syntax.Points, x, null}, {syntax.List, y, x}}; !reflect.DeepEqual(f.Owners, want) {
		t.Errorf("owners %v, want %v", f.Owners, want)
	}
}

// Terms of which nothing is said are classes by themselves; what is said of
// equal terms goes round corners, and comes in any order.
func TestClassesGoRoundCorners(t *testing.T) {
	f := of(t, "x -> y * z -> w * A = B * C = D * x = A * D = y * B = C * E -> D * F -> E")
	x := f.Class[1]
	if f.Class[2] != x || f.Class[0] == x || f.Class[3] == x || f.Class[4] == x || f.Class[3] == f.Class[4] || f.Class[0] == f.Class[3] {
		t.Errorf("classes %v", f.Class)
	}
	first, last := f.Owners[2].Left, f.Owners[3].Left
	want := []Pair{{syntax.Points, x, x}, {syntax.Points, f.Class[3], f.Class[4]}, {syntax.Points, first, x}, {syntax.Points, last, first}}
	if !reflect.DeepEqual(f.Owners, want) || first == last || f.Named(first) || f.Named(last) {
		t.Errorf("owners %v, want %v", f.Owners, want)
	}
}

func TestFalse(t *testing.T) {
	for _, s := range []string{
		"nil != nil", "x != x", "x = y * y != x", "A = B * B = C * emp * A != C", "nil -> x", "ls(nil,x)", "ls(nil,nil)", "x = nil * x -> y", "ls(A,x) * nil = A",
		"x -> y * x -> y", "x -> y * ls(x,y)", "ls(x,x) * ls(x,x)", "x = y * x -> nil * ls(y,nil)", "A -> x * B -> x * A = C * C = B", "x = nil * x != nil",
	} {
		if !of(t, s).False() {
			t.Errorf("%q holds nowhere", s)
		}
	}
	for _, s := range []string{
		"emp", "emp * emp", "nil = nil", "x != y", "x != nil * y = nil", "x -> x", "x -> nil * y -> nil", "ls(x,x)", "ls(x,y) * ls(y,x)", "x -> y * ls(y,y)", "A -> B * B -> A", "ls(x,nil) * y = nil", "x -> A * y -> A * z != A",
	} {
		if of(t, s).False() {
			t.Errorf("%q holds somewhere", s)
		}
	}
}
