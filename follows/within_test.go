package follows

import (
	"testing"

	"lists/api"
	"lists/classes"
	"lists/syntax"
)

func drawn(atoms []syntax.Atom) *Drawn {
	f := classes.Of(atoms)
	f.Tidy()
	return Draw(f)
}

func TestWithin(t *testing.T) {
	for _, c := range []struct {
		s, u string
		want bool
	}{
		{"emp", "emp", true}, {"x = y", "emp", true}, {"emp", "x = y", false}, {"x = nil", "x = y", false}, {"x = nil * y = nil", "x = y", true}, {"x != y", "emp", true}, {"emp", "x != y", false},
		{"x -> nil", "x -> nil", true}, {"x -> nil", "x -> A", true}, {"x -> A", "x -> nil", false}, {"x -> nil", "ls(x,nil)", true}, {"ls(x,nil)", "x -> nil", false}, {"x -> y", "x -> y * x != y", false}, {"x -> y * y -> nil", "x -> y * y -> nil * x != nil", true},
		{"x -> A * A -> nil", "ls(x,nil)", true}, {"x -> y * ls(y,nil)", "ls(x,nil)", true}, {"ls(x,y) * ls(y,nil)", "ls(x,A) * ls(A,nil)", true}, {"ls(x,A) * ls(A,nil)", "ls(x,y) * ls(y,nil)", false}, {"ls(x,nil)", "ls(x,A) * ls(A,nil)", false},
		{"x -> nil * y = x", "x -> nil", true}, {"x -> nil", "x -> nil * y = x", false}, {"x -> nil", "y -> nil", false}, {"x -> nil * y -> nil", "x -> nil", false}, {"x -> nil", "emp", false}, {"emp", "x -> nil", false},
		{"x -> A * y -> A * ls(A,nil)", "x -> A * y -> B * ls(A,nil)", true}, {"x -> A * y -> B * ls(A,nil)", "x -> A * y -> A * ls(A,nil)", false}, {"x -> A * A -> A", "x -> A * ls(A,A)", true}, {"A -> nil * x -> nil", "x -> nil * ls(A,nil)", true},
		{"nil != x * x != y * y -> nil", "nil != x * y -> nil", true}, {"nil != x * y -> nil", "nil != x * x != y * y -> nil", false}, {"x -> nil", "nil != x * x -> nil", true},
	} {
		first, second := read(t, variables+c.s, c.u)
		if got := drawn(first).Within(drawn(second)); got != c.want {
			t.Errorf("%q, %q: %v", c.s, c.u, got)
		}
	}
}

// What is seen at once is true, and what Follows sees without cutting lists up is
// seen at once, if it does not need many steps.
func TestWithinIsWhatFollows(t *testing.T) {
	seed := uint32(71)
	seen := 0
	for i := 0; i < 60000; i++ {
		s, u := random(&seed), random(&seed)
		first, second := read(t, variables+s, u)
		if classes.Of(first).False() || classes.Of(second).False() {
			continue
		}
		follows, e := Follows(first, second)
		if e != api.OK {
			t.Fatalf("P9: %q, %q: %d", s, u, e)
		}
		q := &search{first: classes.Of(first), second: classes.Of(second), steps: patience}
		uncut := q.drop() && q.fits(q.first.Owners)
		got := drawn(first).Within(drawn(second))
		if got != uncut || got && !follows {
			t.Fatalf("%q, %q: %v, uncut %v, Follows %v", s, u, got, uncut, follows)
		}
		if got {
			seen++
		}
	}
	if seen < 1000 {
		t.Errorf("only %d: the test says little", seen)
	}
}
