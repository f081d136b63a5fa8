package follows

import (
	"testing"

	"lists/api"
	"lists/syntax"
)

func read(t *testing.T, s, u string) ([]syntax.Atom, []syntax.Atom) {
	t.Helper()
	first, second, e := syntax.ReadTwo(s, u)
	if e != api.OK {
		t.Fatalf("%q, %q: %d", s, u, e)
	}
	return first, second
}

func check(t *testing.T, want bool, pairs [][2]string) {
	t.Helper()
	for _, c := range pairs {
		first, second := read(t, c[0], c[1])
		if got, e := Follows(first, second); got != want || e != api.OK {
			t.Errorf("P9: %q, %q: %v, %d, want %v", c[0], c[1], got, e, want)
		}
	}
}

func TestSeenWithoutCells(t *testing.T) {
	check(t, true, [][2]string{
		{"emp", "emp"}, {"emp", "emp * emp"}, {"emp", "x = x"}, {"emp", "A = x * B = A"}, {"emp", "A != x * A != nil * B != A"},
		{"x = y * y = z", "z = x"}, {"x != y", "y != x"}, {"x = y * y != z", "z != x"}, {"x = nil * y = nil", "x = y"}, {"x = A * A = y", "x = y"}, {"A != B", "A != B"},
	})
}

func TestSeenWithCells(t *testing.T) {
	check(t, true, [][2]string{
		{"x -> nil", "x -> A * x != nil"}, {"x -> nil", "A -> nil"}, {"x -> nil", "A -> B * x = A"}, {"x -> A * A = y", "x -> y"}, {"x -> y * x != y", "x -> A * A != x"},
		{"x -> y * y -> x", "x != y * A -> B * B -> A"}, {"x -> nil * y = nil", "x != y * x -> y"}, {"A -> nil * B -> x * C -> C", "C -> x * B -> B * A -> nil"}, {"y -> y * x -> nil", "A -> B * C -> C"},
		{"x -> y * y -> z * z -> nil", "ls(x,A) * A -> nil"}, {"x -> y * y -> z * z -> nil", "ls(A,nil)"}, {"x -> A * A -> B * B -> nil", "ls(x,B) * B -> A"},
		{"x -> y * ls(y,z)", "ls(x,z)"}, {"ls(x,y) * ls(y,z)", "ls(x,z)"}, {"ls(x,y) * ls(y,x)", "ls(y,y)"}, {"ls(x,y) * ls(y,y)", "ls(x,y)"}, {"ls(x,A) * ls(A,nil)", "ls(x,nil)"},
		{"ls(x,nil) * ls(y,nil)", "x != y * ls(y,nil) * x != nil * ls(x,nil)"}, {"ls(A,nil)", "ls(B,C) * C = nil"}, {"x -> A * y -> A * ls(A,nil)", "y -> B * ls(B,C) * x -> B"},
	})
}

// What is seen only when lists are looked at as one cell, as two, and as more.
func TestSeenOfListsCutUp(t *testing.T) {
	check(t, true, [][2]string{
		{"ls(x,y) * ls(y,nil)", "x -> A * ls(A,nil)"}, {"ls(x,y) * ls(y,nil)", "ls(x,A) * A -> nil"}, {"ls(x,y) * ls(y,z) * ls(z,nil)", "x -> A * ls(A,B) * B -> nil"}, {"ls(x,y) * ls(y,x)", "ls(x,A) * A -> x * A != x"},
		{"w->A*A->B*B->C*ls(C,D)*ls(D,E)*ls(E,F)*ls(F,G)*ls(G,H)*ls(H,x)*ls(x,y)*ls(y,z)*z->w", "z->w*ls(w,A)*A->B*y!=G"},
	})
}

func TestNotSeenWithoutCells(t *testing.T) {
	check(t, false, [][2]string{
		{"emp", "x = y"}, {"emp", "x = nil"}, {"emp", "x != y"}, {"emp", "x != nil"}, {"emp", "nil != nil"}, {"emp", "A != A"}, {"emp", "A = B * A != B"},
		{"x = y", "A = x * A != y"}, {"x != y * y != z", "x != z"}, {"x != A * y != A", "x = y"}, {"x != A * A != y", "x != y"},
	})
}

func TestNotSeenWithCells(t *testing.T) {
	check(t, false, [][2]string{
		{"emp", "x -> nil"}, {"emp", "ls(x,nil)"}, {"emp", "A -> B"}, {"x -> nil", "emp"}, {"A -> nil", "emp"}, {"A -> nil", "x -> nil"}, {"x -> A", "x -> y"}, {"x -> A", "x -> A * A != nil"}, {"x -> A", "x -> x"},
		{"x -> nil", "x -> nil * x -> nil"}, {"x -> nil", "x = nil"}, {"x -> nil", "nil -> nil"}, {"x -> nil", "x -> nil * y != x"}, {"x -> y", "x != y * x -> y"}, {"x -> y * y -> x", "x -> x * y -> y"}, {"x -> A * y -> B", "x -> A * y -> A"},
		{"x -> nil * y -> nil", "A -> nil * B -> nil * A = B"}, {"x -> nil * y -> nil", "A -> nil * B -> nil * A = x * B = x"}, {"x -> nil * y -> z", "A -> nil * A = y * x -> B"},
		{"ls(x,y)", "x -> y"}, {"ls(x,y)", "x -> A * ls(A,y)"}, {"ls(x,y)", "ls(x,A) * ls(A,y)"}, {"ls(x,y)", "ls(x,y) * x != y"}, {"ls(x,y)", "ls(x,y) * y != nil"}, {"ls(x,x)", "x -> x"}, {"ls(x,x)", "ls(y,y)"}, {"ls(x,nil)", "ls(A,nil) * A != x"}, {"ls(x,nil)", "ls(y,nil)"},
		{"ls(x,y) * ls(y,nil)", "ls(x,nil) * ls(y,nil)"}, {"ls(x,y) * ls(y,nil)", "x -> A * ls(A,B) * B -> nil"}, {"ls(x,y) * ls(z,y)", "ls(x,y)"}, {"ls(x,y) * ls(z,y)", "ls(x,z)"},
	})
}

func TestFalseFirst(t *testing.T) {
	for _, s := range []string{"x != x", "nil -> x", "ls(nil,nil)", "x -> A * x -> A", "x = nil * ls(x,y)", "A = B * ls(A,x) * B -> x"} {
		first, second := read(t, s, "emp")
		if got, e := Follows(first, second); got || e != api.ErrFalse {
			t.Errorf("P9: %q: %v, %d", s, got, e)
		}
	}
	// A second formula that holds nowhere is no error.
	check(t, false, [][2]string{{"emp", "x != x"}, {"x -> nil", "x -> nil * x -> nil"}, {"x -> nil", "x -> nil * A != A"}})
}
