package classes

import (
	"reflect"
	"strings"
	"testing"

	"lists/api"
	"lists/syntax"
)

// tidy reads a formula, with the variables x, y, z, w in this order, and writes
// it down again.
func tidy(t *testing.T, formula string) *Formula {
	t.Helper()
	f := of(t, "x = x * y = y * z = z * w = w * "+formula)
	f.Tidy()
	return f
}

func written(f *Formula) string { return f.Write([]byte("xyzw")) }

// What is tidied is written in one way, whatever the order and the hidden names;
// and what says nothing is gone.
func TestTidy(t *testing.T) {
	for _, c := range []struct{ s, want string }{
		{"emp", "emp"},
		{"nil = nil * x = x", "emp"},
		{"y = x", "y = x"},
		{"nil = y", "y = nil"},
		{"A = y * A = z", "z = y"},
		{"B = A * nil = B * A = w", "w = nil"},
		{"y != x", "x != y"},
		{"w != z * nil != x * z != w", "x != nil * z != w"},
		{"x != A", "emp"},
		{"x -> A * A != y", "y != A * x -> A"},
		{"x -> nil * x != nil", "x -> nil"},
		{"x -> nil * y -> nil * y != x", "x -> nil * y -> nil"},
		{"x -> nil * z != x", "x != z * x -> nil"},
		{"A -> nil * z -> B * ls(B,A)", "z -> A * ls(A,B) * B -> nil"},
		{"y -> C * x -> B * B -> C", "x -> A * y -> B * A -> B"},
		{"x -> B * y -> C * z -> nil * w -> B", "x -> A * y -> B * z -> nil * w -> A"},
		{"x -> nil * D -> C * C -> D", "x -> nil * A -> B * B -> A"},
		{"x = nil * y -> x * z = y * w != y", "x = nil * z = y * y != w * y -> nil"},
		{"ls(x,x) * B -> x", "ls(x,x) * A -> x"},
	} {
		f := tidy(t, c.s)
		if got := written(f); got != c.want {
			t.Errorf("%q: %q, want %q", c.s, got, c.want)
		}
		g := tidy(t, written(f))
		if !f.Same(g) {
			t.Errorf("%q: %v, written and read %v", c.s, f, g)
		}
		g.Tidy()
		if !f.Same(g) {
			t.Errorf("%q: tidied again %v, %v", c.s, f, g)
		}
	}
}

// The numbers of a tidy formula leave no gap, so that the next one is free.
func TestNames(t *testing.T) {
	for _, c := range []struct {
		s    string
		want int
	}{
		{"emp", 5}, {"x = y * z = y * nil = w", 2}, {"x -> A * A -> B", 7}, {"A -> B * x = nil", 6}, {"A != B", 5}, {"x = nil * y = nil * z = nil * w = nil", 1},
	} {
		f := tidy(t, c.s)
		if got := f.Names(); got != c.want {
			t.Errorf("%q: %d names, want %d", c.s, got, c.want)
		}
	}
	f := tidy(t, "x -> A")
	f.Part(0, 9)
	if f.Names() != 10 {
		t.Errorf("%d names", f.Names())
	}
}

func TestSame(t *testing.T) {
	list := []string{"emp", "x = y", "x = nil", "x != y", "x != z", "x -> nil", "ls(x,nil)", "x -> y", "x -> y * x != z", "x -> y * y -> nil", "x -> A * A -> nil", "x -> A * A -> A"}
	for i, s := range list {
		for k, u := range list {
			if got := tidy(t, s).Same(tidy(t, u)); got != (i == k) {
				t.Errorf("%q, %q: %v", s, u, got)
			}
		}
	}
}

func TestCopySharesNothing(t *testing.T) {
	f := tidy(t, "x -> A * y != A * z = w")
	before := written(f)
	g := f.Copy()
	if !f.Same(g) {
		t.Errorf("%v, %v", f, g)
	}
	g.Join(1, 2)
	g.Owners[0].Kind = syntax.List
	g.Apart[0].Left = 0
	g.Lay(syntax.Points, 3, 0)
	if written(f) != before {
		t.Errorf("%q is now %q", before, written(f))
	}
}

func TestJoin(t *testing.T) {
	f := tidy(t, "x -> A * y != A * ls(z,y)")
	f.Join(f.Class[3], f.Class[2])
	f.Tidy()
	if got := written(f); got != "z = y * y != A * x -> A * ls(y,y)" {
		t.Errorf("%q", got)
	}
	f = tidy(t, "x -> y * z != y")
	f.Join(f.Class[0], f.Class[2])
	f.Tidy()
	if got := written(f); got != "y = nil * z != nil * x -> nil" {
		t.Errorf("%q", got)
	}
}

func TestTake(t *testing.T) {
	for i, want := range []string{"y -> nil * ls(z,y)", "x -> A * ls(z,y)", "x -> A * y -> nil"} {
		f := tidy(t, "x -> A * y -> nil * ls(z,y)")
		f.Take(i)
		f.Tidy()
		if got := written(f); got != want {
			t.Errorf("%d: %q, want %q", i, got, want)
		}
	}
}

func TestDiffer(t *testing.T) {
	f := tidy(t, "x -> A * ls(y,z) * z != w")
	for _, c := range []struct {
		a, b int
		want bool
	}{
		{0, 0, false}, {1, 1, false}, {0, 1, true}, {2, 0, true}, {0, 3, false}, {1, 2, true}, {2, 1, true}, {1, 3, false}, {3, 4, true}, {4, 3, true}, {0, 4, false}, {1, 5, false}, {5, 3, false},
	} {
		if got := f.Differ(c.a, c.b); got != c.want {
			t.Errorf("%d, %d: %v", c.a, c.b, got)
		}
	}
}

func TestReached(t *testing.T) {
	f := tidy(t, "x -> A * A -> B * ls(B,A) * C -> x * D -> E * y = nil")
	want := [Most]bool{true, true, true, true, true, true}
	if got := f.Reached(); got != want {
		t.Errorf("%q: %v", written(f), got)
	}
	if f := of(t, "A -> nil"); f.Reached()[0] {
		t.Errorf("nil is no variable: %v", f.Reached())
	}
}

// Fold keeps what is named, what several atoms end in, and what is no cell.
func TestFold(t *testing.T) {
	for _, c := range []struct{ s, want string }{
		{"x -> nil", "x -> nil"},
		{"x -> y * y -> nil", "x -> y * y -> nil"},
		{"x -> A * A -> nil", "ls(x,nil)"},
		{"x -> A * ls(A,y)", "ls(x,y)"},
		{"x -> A * A -> B * B -> C * C -> nil", "ls(x,nil)"},
		{"x -> A * A -> x", "ls(x,x)"},
		{"x -> A * A -> A", "x -> A * A -> A"},
		{"x -> A * A -> B * B -> A", "x -> A * ls(A,A)"},
		{"x -> A * y -> A * A -> B * B -> nil", "x -> A * y -> A * ls(A,nil)"},
		{"x -> A * A -> B", "ls(x,A)"},
		{"x -> A * A -> nil * A != y * y != z", "y != z * ls(x,nil)"},
		{"x -> A * A -> B * B != y", "y != A * ls(x,A)"},
		{"x -> A * A -> y * y -> B * B -> nil", "ls(x,y) * ls(y,nil)"},
	} {
		f := tidy(t, c.s)
		f.Fold()
		f.Tidy()
		if got := written(f); got != c.want {
			t.Errorf("%q: %q, want %q", c.s, got, c.want)
		}
	}
}

// There are hidden names for as many classes as there may be, and each text can
// be read, if it is short and has few names.
func TestWriteMany(t *testing.T) {
	f := tidy(t, "emp")
	for c := 5; c < Most; c++ {
		f.Lay(syntax.List, c-1, c)
	}
	f.Tidy()
	text := written(f)
	if !strings.HasPrefix(text, "ls(w,A) * ls(A,B)") || !strings.HasSuffix(text, "* ls(R,S)") {
		t.Errorf("%q", text)
	}
	f = tidy(t, "x = nil * y = nil * z = nil * w = nil")
	for c := 1; c < Most; c++ {
		f.Lay(syntax.Points, c, 0)
	}
	f.Tidy()
	if text := written(f); !strings.HasSuffix(text, "* W -> nil") {
		t.Errorf("%q", text)
	}
	// Of fewer variables only those are written that there are.
	f = of(t, "x -> y * x != z")
	f.Class[4] = f.Class[0]
	f.Tidy()
	if got := f.Write([]byte("abc")); got != "a != c * a -> b" {
		t.Errorf("%q", got)
	}
	if _, e := syntax.Read("pre " + f.Write([]byte("abc")) + " { }"); e != api.OK {
		t.Errorf("%d", e)
	}
	if !reflect.DeepEqual(f.Owners, []Pair{{syntax.Points, 1, 2}}) {
		t.Errorf("%v", f.Owners)
	}
}
