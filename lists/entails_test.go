package lists_test

import (
	"strings"
	"testing"

	"lists/api"
	"lists/lists"
)

func TestP14Formulas(t *testing.T) {
	for _, c := range []struct {
		s, t string
		want bool
		e    api.Errno
	}{
		{"x -> A * y -> B * z -> C", "x -> A * y -> B * z -> C * w != x", false, api.OK},
		{"x -> nil", "ls(x,nil)", true, api.OK},
		{"x -> y * ls(y,z)", "ls(x,z)", true, api.OK},
		{"ls(x,y) * ls(y,nil)", "ls(x,nil)", true, api.OK},
		{"x -> A * A -> nil", "x -> B * ls(B,nil)", true, api.OK},
		{"x -> nil * y -> nil", "x != y * y != nil * x -> nil * y -> nil", true, api.OK},
		{"x = y * y -> nil", "x -> nil", true, api.OK},
		{"ls(x,nil)", "x -> nil", false, api.OK},
		{"x -> nil * y -> nil", "x -> nil", false, api.OK},
		{"x -> nil", "x -> nil * y -> nil", false, api.OK},
		{"x -> y", "x != y * x -> y", false, api.OK},
		{"x = nil * x -> y", "emp", false, api.ErrFalse},
	} {
		got, e := lists.Entails(c.s, c.t)
		if got != c.want || e != c.e {
			t.Errorf("P14: Entails(%q, %q) = %v, %d, want %v, %d", c.s, c.t, got, e, c.want, c.e)
		}
	}
}

// The faults of a formula, by the error that is named first.
func TestP9EachError(t *testing.T) {
	nine := "A=B*C=D*E=F*G=H*I=A"
	for _, c := range []struct {
		s string
		e api.Errno
	}{
		{strings.Repeat(" ", 241), api.ErrLong}, {strings.Repeat("#", 241), api.ErrLong}, {"emp" + strings.Repeat("\n", 238), api.ErrLong}, {strings.Repeat("x", 1<<20), api.ErrLong},
		{"#", api.ErrLex}, {"emp\t", api.ErrLex}, {"x - y", api.ErrLex}, {"x -> 1", api.ErrLex}, {"( ? a=b*c=d*e=f", api.ErrLex}, {"x != x * é = x", api.ErrLex},
		{"", api.ErrSyntax}, {" \n", api.ErrSyntax}, {"emp emp", api.ErrSyntax}, {"emp *", api.ErrSyntax}, {"x", api.ErrSyntax}, {"x = nil x", api.ErrSyntax}, {"x -> new", api.ErrSyntax}, {"pre emp", api.ErrSyntax}, {"emp { }", api.ErrSyntax}, {"pre emp { }", api.ErrSyntax}, {"ls(x)", api.ErrSyntax}, {"x.n = y", api.ErrSyntax}, {"x = y;", api.ErrSyntax}, {"a=b*c=d*e=f*", api.ErrSyntax}, {nine + " x", api.ErrSyntax},
		{"a=b*c=d*e=f", api.ErrNames}, {nine, api.ErrNames}, {"x != x * " + nine, api.ErrNames},
	} {
		for _, pair := range [][2]string{{c.s, "emp"}, {"emp", c.s}, {c.s, c.s}} {
			if got, e := lists.Entails(pair[0], pair[1]); got || e != c.e {
				t.Errorf("P9: Entails(%.60q, %.60q) = %v, %d, want %d", pair[0], pair[1], got, e, c.e)
			}
		}
	}
}

// All faults of the texts are told of the first ahead of the second, then those
// of the names, then that the first holds nowhere.
func TestP9WhichErrorFirst(t *testing.T) {
	long, lex, syntax, names, wrong := strings.Repeat("#", 241), "x #", "x x", "a=b*c=d*e=f", "x != x"
	order := []struct {
		s string
		e api.Errno
	}{{long, api.ErrLong}, {lex, api.ErrLex}, {syntax, api.ErrSyntax}}
	for _, first := range order {
		for _, second := range []string{long, lex, syntax, names, wrong} {
			if got, e := lists.Entails(first.s, second); got || e != first.e {
				t.Errorf("P9: Entails(%.20q, %.20q) = %v, %d, want %d", first.s, second, got, e, first.e)
			}
		}
		for _, s := range []string{names, wrong} {
			if got, e := lists.Entails(s, first.s); got || e != first.e {
				t.Errorf("P9: Entails(%.20q, %.20q) = %v, %d, want %d", s, first.s, got, e, first.e)
			}
		}
	}
	for _, c := range [][2]string{{names, wrong}, {wrong, names}, {"x != x * y = z", "v = w"}} {
		if got, e := lists.Entails(c[0], c[1]); got || e != api.ErrNames {
			t.Errorf("P9: Entails(%q, %q) = %v, %d, want %d", c[0], c[1], got, e, api.ErrNames)
		}
	}
}

// Variables are counted in both formulas together, hidden names in each.
func TestP9Names(t *testing.T) {
	eight, others := "A=B*C=D*E=F*G=H", "I=J*K=L*M=N*O=P"
	for _, c := range []struct {
		s, t string
		want bool
		e    api.Errno
	}{
		{"a = b", "c = d", false, api.OK}, {"a = b * c = d", "d = c * b = a", true, api.OK}, {"a = b * c = d", "n = n", false, api.ErrNames}, {"a = b * c = d", "e = e", false, api.ErrNames}, {"a = b", "c = d * e = a", false, api.ErrNames}, {"emp", "a=a*b=b*c=c*d=d*e=e", false, api.ErrNames},
		{eight, others, true, api.OK}, {others, eight, true, api.OK}, {eight + "*I=I", others, false, api.ErrNames}, {eight, others + "*A=A", false, api.ErrNames}, {eight + "*a=b*c=d", others + "*a=b*d=c", true, api.OK},
	} {
		got, e := lists.Entails(c.s, c.t)
		if got != c.want || e != c.e {
			t.Errorf("P9: Entails(%q, %q) = %v, %d, want %v, %d", c.s, c.t, got, e, c.want, c.e)
		}
	}
}

// A hidden name of the second is not that of the first, and a variable that the
// first does not have may be anything.
func TestP9Scopes(t *testing.T) {
	for _, c := range []struct {
		s, t string
		want bool
	}{
		{"x -> A", "x -> B", true}, {"x -> A * y -> B", "x -> B * y -> A", true}, {"x -> A * A -> nil", "x -> B * A -> nil", true}, {"x = A", "y = A", true},
		{"emp", "y = y", true}, {"emp", "y = nil", false}, {"x -> nil", "x -> nil * y != x", false}, {"x -> nil", "y -> nil", false},
	} {
		if got, e := lists.Entails(c.s, c.t); got != c.want || e != api.OK {
			t.Errorf("P9: Entails(%q, %q) = %v, %d, want %v", c.s, c.t, got, e, c.want)
		}
	}
}

func TestP9LongestText(t *testing.T) {
	s := "x->A*ls(A,y)" + strings.Repeat(" ", api.MaxText-12)
	if got, e := lists.Entails(s, s); !got || e != api.OK {
		t.Errorf("P9: %v, %d", got, e)
	}
	s = strings.Repeat("emp*", 59) + "x!=x"
	if got, e := lists.Entails(s, "emp"); got || e != api.ErrFalse {
		t.Errorf("P9: %v, %d", got, e)
	}
	s = strings.Repeat("A->B*", 47) + "A->B"
	if got, e := lists.Entails(s, s); got || e != api.ErrFalse {
		t.Errorf("P9: %v, %d", got, e)
	}
	if got, e := lists.Entails("A->B", s); got || e != api.OK {
		t.Errorf("P9: %v, %d", got, e)
	}
}

// begins tells whether a formula holds of a store and cells, by way of a run.
func begins(t *testing.T, formula string, store, cells []int) bool {
	t.Helper()
	_, e := load(t, "pre x=x*y=y*"+formula+" { }").Start(store, cells)
	if e != api.OK && e != api.ErrPre {
		t.Fatalf("P6: Start of %q: %d", formula, e)
	}
	return e == api.OK
}

// A true answer, and ErrFalse, never say more than what runs begin with.
func TestP9IsWhatRunsBeginWith(t *testing.T) {
	seed := uint32(21)
	formulas := []string{
		"emp", "x = y", "x != y", "x = nil", "x -> y", "x -> A", "x -> nil", "ls(x,y)", "ls(x,nil)", "ls(x,x)", "ls(A,x)", "A -> B", "x -> A * A -> y", "x -> A * A -> A", "x -> A * ls(A,y)", "ls(x,A) * A -> y", "ls(x,A) * A -> nil", "x -> y * y -> x", "ls(x,y) * ls(y,x)", "ls(x,y) * ls(y,nil)", "x -> A * y -> A", "x -> A * y -> A * A != nil",
		"ls(x,nil) * y = nil", "ls(x,nil) * y != x", "ls(x,y) * x != y", "ls(x,y) * y != nil", "ls(A,B) * ls(B,A)", "ls(A,nil) * ls(x,A)", "x = y * x -> nil", "x -> A * x = A", "ls(x,A) * ls(y,A)", "x -> x * ls(y,y)", "x = nil * x -> A", "x -> A * x = y * y -> A", "ls(A,y) * A = nil", "A != A",
	}
	for i := 0; i < 400; i++ {
		store := []int{next(&seed, 4), next(&seed, 5)}
		cells := []int{}
		for a := 1; a < 5; a++ {
			if next(&seed, 2) == 0 {
				cells = append(cells, a, next(&seed, 5))
			}
		}
		held := []bool{}
		for _, f := range formulas {
			held = append(held, begins(t, f, store, cells))
		}
		for k, s := range formulas {
			for l, u := range formulas {
				got, e := lists.Entails(s, u)
				if held[k] && (got && !held[l] || e == api.ErrFalse) {
					t.Fatalf("P9: Entails(%q, %q) = %v, %d, but of %v, %v: %v, %v", s, u, got, e, store, cells, held[k], held[l])
				}
			}
		}
	}
}
