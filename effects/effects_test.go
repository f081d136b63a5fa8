package effects

import (
	"reflect"
	"strings"
	"testing"

	"lists/api"
	"lists/classes"
	"lists/syntax"
)

// does reads a program of one command, and does its first node. The variables
// are x, y, z, w, in this order.
func does(t *testing.T, formula, command string) (*Outcome, *classes.Formula) {
	t.Helper()
	p, e := syntax.Read("pre x=x*y=y*z=z*w=w*" + formula + "{" + command + "}")
	if e != api.OK {
		t.Fatalf("%q, %q: %d", formula, command, e)
	}
	f := classes.Of(p.Pre)
	f.Tidy()
	return Of(p.Nodes[0], f), f
}

func texts(list []*classes.Formula) string {
	s := []string{}
	for _, f := range list {
		s = append(s, f.Write([]byte("xyzw")))
	}
	return strings.Join(s, " | ")
}

// wrong: n for Null, d for Dangling, f for Full.
func wrong(o *Outcome) string {
	s := ""
	if o.Null {
		s += "n"
	}
	if o.Dangling {
		s += "d"
	}
	if o.Full {
		s += "f"
	}
	return s
}

func TestOf(t *testing.T) {
	for _, c := range []struct{ formula, command, next, other, wrong string }{
		{"x -> nil", "", "", "", ""},
		{"x -> nil", "skip;", "x -> nil", "", ""},
		{"x -> nil", "y = x;", "y = x * x -> nil", "", ""},
		{"x -> nil", "x = x;", "x -> nil", "", ""},
		{"x -> nil * y != z", "y = nil;", "y = nil * x -> nil", "", ""},
		{"x -> nil", "x = nil;", "x = nil * A -> nil", "", ""},
		{"x -> A * A -> nil", "x = x.n;", "x -> nil * A -> x", "", ""},
		{"x -> A", "y = x.n;", "x -> y", "", ""},
		{"x -> x", "y = x.n;", "y = x * x -> x", "", ""},
		{"x = nil", "y = x.n;", "", "", "n"},
		{"emp", "y = x.n;", "", "", "nd"},
		{"x != nil", "y = x.n;", "", "", "d"},
		{"y -> z", "w = x.n;", "y = x * w = z * x -> z", "", "nd"},
		{"y -> z * x != y", "w = x.n;", "", "", "nd"},
		{"ls(x,nil)", "y = x.n;", "y = nil * x -> nil | x -> y * ls(y,nil)", "", ""},
		{"ls(x,y)", "z = x.n;", "z = y * x -> y | x -> z * ls(z,y)", "", ""},
		{"ls(y,nil) * x != nil", "z = x.n;", "y = x * z = nil * x -> nil | y = x * x -> z * ls(z,nil) | z = nil * x -> nil * ls(y,x) | x -> z * ls(y,x) * ls(z,nil)", "", "d"},
		{"x -> A", "x.n = y;", "x -> y", "", ""},
		{"x -> A", "x.n = nil;", "x -> nil", "", ""},
		{"x -> A", "x.n = x;", "x -> x", "", ""},
		{"ls(x,nil)", "x.n = y;", "x -> y | x -> y * ls(A,nil)", "", ""},
		{"x = nil", "x.n = y;", "", "", "n"},
		{"y -> nil", "x = new;", "x -> nil * y -> nil", "", ""},
		{"x -> nil", "x = new;", "x -> nil * A -> nil", "", ""},
		{"x != y", "x = new;", "x -> nil", "", ""},
		{"x -> nil", "free x;", "x != nil", "", ""},
		{"x -> y * y -> nil * ls(z,nil)", "free x;", "x != nil * x != y * x != z * y -> nil * ls(z,nil)", "", ""},
		{"ls(x,nil)", "free x;", "x != nil | x != nil * x != A * ls(A,nil)", "", ""},
		{"nil != x", "free x;", "", "", "d"},
		{"x -> nil", "if (*) { }", "x -> nil", "x -> nil", ""},
		{"emp", "if (x = y) { }", "y = x", "x != y", ""},
		{"emp", "if (x != y) { }", "x != y", "y = x", ""},
		{"emp", "if (x = nil) { }", "x = nil", "x != nil", ""},
		{"emp", "while (x = x) { }", "emp", "", ""},
		{"emp", "while (x != x) { }", "", "emp", ""},
		{"x -> nil", "if (x = nil) { }", "", "x -> nil", ""},
		{"x -> nil", "if (x = y) { }", "y = x * x -> nil", "x != y * x -> nil", ""},
		{"x -> nil * ls(y,nil)", "if (x != y) { }", "x -> nil * ls(y,nil)", "", ""},
		{"x != y", "if (x = y) { }", "", "x != y", ""},
		{"x = y", "if (x = y) { }", "y = x", "", ""},
	} {
		o, _ := does(t, c.formula, c.command)
		if next, other := texts(o.Next), texts(o.Other); next != c.next || other != c.other || wrong(o) != c.wrong {
			t.Errorf("%q, %q: %q, %q, %q, want %q, %q, %q", c.formula, c.command, next, other, wrong(o), c.next, c.other, c.wrong)
		}
	}
}

// The formula that is handed in stays as it is.
func TestNothingIsChanged(t *testing.T) {
	for _, command := range []string{"skip;", "x = y;", "y = x.n;", "x.n = y;", "y.n = x;", "x = new;", "free x;", "free y;", "if (*) { }", "if (x = y) { }", "if (y != nil) { }"} {
		o, f := does(t, "ls(x,A) * z -> A * w != A", command)
		_, again := does(t, "ls(x,A) * z -> A * w != A", "skip;")
		for _, g := range append(o.Next, o.Other...) {
			g.Join(0, 1)
			for i := range g.Owners {
				g.Owners[i].Right = 0
			}
			for i := range g.Apart {
				g.Apart[i].Left = 0
			}
		}
		if !reflect.DeepEqual(f.Owners, again.Owners) || !reflect.DeepEqual(f.Apart, again.Apart) || f.Class != again.Class {
			t.Errorf("%q: %v is now %v", command, again, f)
		}
	}
}

// Where the names run out it is said that formulas are missing.
func TestFull(t *testing.T) {
	p, _ := syntax.Read("pre emp { x = new; x = x.n; y = x; }")
	f := &classes.Formula{Class: [classes.FirstHidden]int{0, 1, 0, 0, 0}}
	for c := 1; c < classes.Most; c++ {
		f.Lay(syntax.List, c, (c+1)%classes.Most)
	}
	for node, want := range []int{0, 1, 1} {
		o := Of(p.Nodes[node], f)
		if o.Full != (node < 2) || len(o.Next) != want {
			t.Errorf("node %d: %v, %d formulas", node, o.Full, len(o.Next))
		}
	}
}
