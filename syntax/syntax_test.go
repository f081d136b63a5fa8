package syntax

import (
	"reflect"
	"testing"

	"lists/api"
)

func read(t *testing.T, s string) *Program {
	t.Helper()
	p, e := Read(s)
	if e != api.OK || p == nil {
		t.Fatalf("Read(%q) = %v, %d", s, p, e)
	}
	return p
}

func variable(i int) Term { return Term{Var, i} }

func hidden(i int) Term { return Term{Hidden, i} }

func TestAtoms(t *testing.T) {
	p := read(t, "pre emp * x = A * nil != y * B -> x * ls(A,nil) { }")
	want := []Atom{
		{Kind: Emp},
		{Equal, variable(0), hidden(0)},
		{Unequal, Term{}, variable(1)},
		{Points, hidden(1), variable(0)},
		{List, hidden(0), Term{}},
	}
	if !reflect.DeepEqual(p.Pre, want) {
		t.Errorf("P3: %+v", p.Pre)
	}
}

func TestCommands(t *testing.T) {
	p := read(t, "pre emp { x = nil; x = y; y = x.n; x.n = y; y.n = nil; z = new; free z; skip; }")
	want := []Node{
		{Op: Assign, Var: 0, Next: 1},
		{Op: Assign, Var: 0, Arg: variable(1), Next: 2},
		{Op: Follow, Var: 1, Arg: variable(0), Next: 3},
		{Op: Link, Var: 0, Arg: variable(1), Next: 4},
		{Op: Link, Var: 1, Next: 5},
		{Op: New, Var: 2, Next: 6},
		{Op: Free, Var: 2, Next: 7},
		{Op: Skip, Next: 8},
		{Op: End, Next: 9},
	}
	if !reflect.DeepEqual(p.Nodes, want) {
		t.Errorf("P4: %+v", p.Nodes)
	}
	if string(p.Vars) != "xyz" {
		t.Errorf("P4: variables %q", p.Vars)
	}
}

func TestBlocks(t *testing.T) {
	for _, c := range []struct {
		s    string
		want []Node
	}{
		{"pre emp { if (*) { } }", []Node{{Op: Either, Next: 1, Other: 1}, {Op: End, Next: 2}}},
		{"pre emp { if (x = nil) { skip; } }", []Node{{Op: Same, Next: 1, Other: 2}, {Op: Skip, Next: 2}, {Op: End, Next: 3}}},
		{"pre emp { if (x != y) { skip; } else { skip; } }", []Node{{Op: Differs, Arg: variable(1), Next: 1, Other: 3}, {Op: Skip, Next: 2}, {Op: Jump, Next: 4}, {Op: Skip, Next: 4}, {Op: End, Next: 5}}},
		{"pre emp { if (*) { } else { } }", []Node{{Op: Either, Next: 1, Other: 2}, {Op: Jump, Next: 2}, {Op: End, Next: 3}}},
		{"pre emp { while (*) { } }", []Node{{Op: Either, Next: 1, Other: 2}, {Op: Jump, Next: 0}, {Op: End, Next: 3}}},
		{"pre emp { while (x = y) { while (*) { skip; } } }", []Node{{Op: Same, Arg: variable(1), Next: 1, Other: 5}, {Op: Either, Next: 2, Other: 4}, {Op: Skip, Next: 3}, {Op: Jump, Next: 1}, {Op: Jump, Next: 0}, {Op: End, Next: 6}}},
	} {
		p := read(t, c.s)
		if !reflect.DeepEqual(p.Nodes, c.want) {
			t.Errorf("P4: %q: %+v, want %+v", c.s, p.Nodes, c.want)
		}
	}
}

func TestAtOutside(t *testing.T) {
	p := read(t, "pre emp { skip; }")
	var none *Program
	for _, n := range []Node{p.At(-1), p.At(2), p.At(1 << 62), none.At(0)} {
		if n.Op != End {
			t.Errorf("At answers %+v", n)
		}
	}
	if n := p.At(0); n.Op != Skip {
		t.Errorf("At(0) = %+v", n)
	}
}

func TestReadTwo(t *testing.T) {
	first, second, e := ReadTwo("y -> A * B != x", "x = B * ls(C,B) * z = y")
	wantFirst := []Atom{{Points, variable(0), hidden(0)}, {Unequal, hidden(1), variable(1)}}
	wantSecond := []Atom{{Equal, variable(1), hidden(0)}, {List, hidden(1), hidden(0)}, {Equal, variable(2), variable(0)}}
	if e != api.OK || !reflect.DeepEqual(first, wantFirst) || !reflect.DeepEqual(second, wantSecond) {
		t.Errorf("P9: %+v, %+v, %d", first, second, e)
	}
	for _, c := range [][2]string{{"", "emp"}, {"emp", ""}, {"emp", "#"}, {"a=b*c=d", "e=a"}, {"emp", "A=B*C=D*E=F*G=H*I=A"}} {
		first, second, e := ReadTwo(c[0], c[1])
		if e == api.OK || first != nil || second != nil {
			t.Errorf("P9: %q: %v, %v, %d", c, first, second, e)
		}
	}
}
