package lists_test

import (
	"reflect"
	"strings"
	"testing"

	"lists/api"
	"lists/lists"
)

// table: the programs of the document that can be read, and their verdicts.
var table = []struct {
	s    string
	want int
}{
	{"pre ls(x,nil) { y = nil; while (x != nil) { z = x.n; x.n = y; y = x; x = z; } }", api.Safe},
	{"pre emp { x = nil; while (*) { y = new; y.n = x; x = y; } }", api.Safe},
	{"pre ls(x,nil) { while (x != nil) { y = x.n; free x; x = y; } }", api.Safe},
	{"pre ls(x,nil) { y = x; while (y != nil) { y = y.n; } }", api.Safe},
	{"pre ls(x,nil) * ls(y,nil) { z = x; w = x.n; while (w != nil) { z = w; w = w.n; } z.n = y; }", api.Safe},
	{"pre ls(x,x) { y = x.n; while (y != x) { z = y.n; free y; y = z; } free x; }", api.Safe},
	{"pre ls(x,y) * ls(y,nil) { while (x != y) { z = x.n; free x; x = z; } }", api.Safe},
	{"pre emp { x = nil; while (*) { y = new; y.n = x; x = y; } while (x != nil) { y = x.n; free x; x = y; } }", api.Safe},
	{"pre x -> A * y -> A * ls(A,nil) { z = x.n; while (z != nil) { z = z.n; } }", api.Safe},
	{"pre ls(x,nil) { while (x != nil) { x = x.n; } }", api.Alarms},
	{"pre ls(x,nil) { free x; }", api.Alarms},
	{"pre x -> nil { free x; }", api.Safe},
	{"pre x -> nil { free x; free x; }", api.Alarms},
	{"pre emp { x = nil; y = x.n; }", api.Alarms},
	{"pre emp { x = y.n; }", api.Alarms},
	{"pre emp { x = new; y = x.n; if (y != nil) { free y; } }", api.Safe},
	{"pre emp { x = new; y = new; if (x = y) { free x; free y; } }", api.Safe},
	{"pre emp { x = new; x = nil; }", api.Alarms},
	{"pre x -> nil { y = x; x = nil; }", api.Safe},
	{"pre x -> A * A -> nil { y = x.n; free x; free y; }", api.Safe},
	{"pre x -> A * A -> nil { free x; }", api.Alarms},
	{"pre x -> nil * y -> nil { if (x = y) { z = nil; z.n = z; } }", api.Safe},
	{"pre x -> nil { free x; y = new; if (x = y) { y = x.n; free x; } }", api.Safe},
	{"pre x -> nil { if (y = x) { z = y.n; } }", api.Safe},
	{"pre x != nil * x = nil { x = x.n; }", api.Safe},
	{"pre x -> nil * x -> nil { y = nil; y = y.n; }", api.Safe},
	{"pre emp { while (x = x) { skip; } }", api.Safe},
	{"pre emp { while (x != x) { x = x.n; } }", api.Safe},
	{"pre emp { if (*) { x = nil; } else { x = new; } if (x != nil) { free x; } }", api.Safe},
	{"pre emp { if (*) { x = nil; } else { x = new; } free x; }", api.Alarms},
	{"pre emp { }", api.Safe},
	{"pre x -> y { }", api.Safe},
	{"pre A -> nil { }", api.Alarms},
	{"pre ls(x,nil) * ls(y,nil) { if (x = y) { z = nil; z.n = z; } }", api.Safe},
	{"pre x != y { while (*) { skip; } if (x = y) { z = nil; z.n = z; } }", api.Safe},
	{"pre x -> nil { free x; if (x = nil) { y = nil; y.n = y; } }", api.Safe},
	{"pre x -> nil { y = x; free x; if (x != y) { y = nil; y.n = y; } }", api.Safe},
	{"pre x -> nil { y = x; if (y != x) { y = nil; y.n = y; } x = nil; if (y = nil) { x.n = x; } }", api.Safe},
	{"pre w = w * ls(x,y) { if (y = w) { while (x != w) { z = x.n; free x; x = z; } } else { while (x != y) { z = x.n; free x; x = z; } } }", api.Safe},
	{"pre x -> A * A -> B * B -> C * C -> D * D -> E * ls(E,F) * F -> nil { skip; }", api.Safe},
	{"pre x != y * z -> A * A -> B * B -> C * C -> D * D -> nil { w = new; free w; if (x = y) { y = nil; y.n = y; } }", api.Safe},
}

func TestP14Programs(t *testing.T) {
	for _, c := range table {
		if got := load(t, c.s).Verdict(); got != c.want {
			t.Errorf("P14: %q: verdict %d, want %d", c.s, got, c.want)
		}
	}
}

// The texts of the document's table that are no programs.
func TestP14Errors(t *testing.T) {
	for _, c := range []struct {
		s    string
		want api.Errno
	}{
		{"pre emp { x = X; }", api.ErrSyntax},
		{"pre emp { free nil; }", api.ErrSyntax},
		{"pre emp { x.m = y; }", api.ErrSyntax},
		{"pre emp { x = y }", api.ErrSyntax},
		{"pre { }", api.ErrSyntax},
		{"emp { }", api.ErrSyntax},
		{"pre x -> 1 { }", api.ErrLex},
		{"pre emp { a = b; c = d; e = a; }", api.ErrNames},
	} {
		if p, e := lists.Load(c.s); e != c.want || p != nil {
			t.Errorf("P14: Load(%q) = %v, %d, want %d", c.s, p, e, c.want)
		}
	}
}

// changed makes another program of one: commands come, go and change.
func changed(seed *uint32, s string) string {
	open := strings.Index(s, "{")
	body := []string{}
	for _, part := range strings.SplitAfter(s[open+1:strings.LastIndex(s, "}")], ";") {
		body = append(body, strings.TrimSpace(part))
	}
	vars := "xyzw"
	v, w := string(vars[next(seed, 4)]), string(vars[next(seed, 4)])
	forms := []string{v + " = " + w + ";", v + " = nil;", v + " = " + w + ".n;", v + ".n = " + w + ";", v + ".n = nil;", v + " = new;", "free " + v + ";", "skip;", "if (" + v + " != nil) { " + w + " = " + v + ".n; }", "while (*) { " + v + " = new; free " + v + "; }", "if (" + v + " = " + w + ") { " + w + " = nil; }", "if (" + v + " != nil) { free " + v + "; }"}
	fresh := forms[next(seed, len(forms))]
	i := next(seed, len(body))
	switch next(seed, 4) {
	case 0: // A command goes; what opens or closes a block stays.
		if k := strings.LastIndexAny(body[i], "{}"); k >= 0 {
			body[i] = body[i][:k+1]
		} else {
			body[i] = ""
		}
	case 1:
		body[i] = fresh + " " + body[i]
	case 2:
		if strings.IndexAny(body[i], "{}") < 0 {
			body[i] = fresh
		}
	case 3:
		k := next(seed, len(body))
		if strings.IndexAny(body[i]+body[k], "{}") < 0 {
			body[i], body[k] = body[k], body[i]
		}
	}
	return s[:open+1] + " " + strings.Join(body, " ") + " }"
}

// several: the table's programs, programs that were made of them, and others, as
// far as they can be read.
func several(seed *uint32, count int) []string {
	list := []string{}
	for _, c := range table {
		list = append(list, c.s)
	}
	for len(list) < count {
		s := program(seed)
		if next(seed, 4) > 0 {
			s = table[next(seed, len(table))].s
			for k := 1 + next(seed, 3); k > 0; k-- {
				s = changed(seed, s)
			}
		}
		if _, e := lists.Load(s); e == api.OK {
			list = append(list, s)
		}
	}
	return list
}

// runs does runs of a program, and tells each state to a function.
func runs(t *testing.T, p *lists.Program, seed *uint32, tell func(api.State)) {
	t.Helper()
	for i := 0; i < 200; i++ {
		store := make([]int, p.Vars())
		for k := range store {
			store[k] = next(seed, 5)
		}
		cells := []int{}
		for a, count := 1, 1+next(seed, 5); a < count; a++ {
			to := []int{next(seed, 5), (a + 1) % count}
			cells = append(cells, a, to[next(seed, 2)])
		}
		r, e := p.Start(store, cells)
		if e != api.OK {
			continue
		}
		for k := 0; k < 50; k++ {
			s := r.State()
			tell(s)
			if s.What != api.Going {
				break
			}
			r.Step(1 + next(seed, 6))
		}
	}
}

// letters answers the variables of a program's text by number.
func letters(p *lists.Program) []string {
	list := []string{}
	words := strings.Fields(p.Text())
	for i, w := range words {
		if len(w) == 1 && w[0] >= 'a' && w[0] <= 'z' && (i == 0 || words[i-1] != ".") && !strings.Contains(strings.Join(list, ""), w) {
			list = append(list, w)
		}
	}
	return list
}

// holdsThere tells whether a formula holds of a state: by a program that has it
// as its precondition. What is too long for that is taken to hold.
func holdsThere(t *testing.T, p *lists.Program, formula string, s api.State) bool {
	t.Helper()
	pre := ""
	for _, v := range letters(p) {
		pre += v + "=" + v + "*"
	}
	q, e := lists.Load("pre " + strings.ReplaceAll(pre+formula, " ", "") + "{}")
	if e == api.ErrLong || e == api.ErrNames || len(s.Cells) > 2*api.MaxCells {
		return true
	}
	if e != api.OK {
		t.Fatalf("P11: %q is no formula: %d", formula, e)
	}
	_, e = q.Start(s.Store, s.Cells)
	return e == api.OK
}

// No run of a safe program goes wrong or leaks, and at each node that a run is at
// one of the formulas holds.
func TestP10P11SafeIsSafe(t *testing.T) {
	seed := uint32(31)
	safe, states := 0, 0
	for _, s := range several(&seed, 700) {
		p := load(t, s)
		verdict := p.Verdict()
		if verdict == api.Safe {
			safe++
		}
		runs(t, p, &seed, func(at api.State) {
			if verdict != api.Safe {
				return
			}
			if at.What != api.Going && at.What != api.Done {
				t.Fatalf("P10: %q is called safe, but a run comes to %+v", s, at)
			}
			states++
			for _, f := range p.Invariant(at.Node) {
				if holdsThere(t, p, f, at) {
					return
				}
			}
			t.Fatalf("P11: %q: of %+v none of %q holds", s, at, p.Invariant(at.Node))
		})
	}
	if safe < 200 || states < 10000 {
		t.Errorf("%d safe, %d states: the test says little", safe, states)
	}
}

// What a run meets that goes wrong is among the alarms; a leak may be told
// earlier than at the end.
func TestP10WhatRunsMeetIsTold(t *testing.T) {
	seed := uint32(37)
	met := 0
	for _, s := range several(&seed, 700) {
		p := load(t, s)
		if p.Verdict() == api.GaveUp {
			continue
		}
		alarms := p.Alarms()
		runs(t, p, &seed, func(at api.State) {
			if at.What == api.Going || at.What == api.Done {
				return
			}
			met++
			for _, a := range alarms {
				if a.What == at.What && (a.Node == at.Node || a.What == api.Leaks) {
					return
				}
			}
			t.Fatalf("P10: %q: a run comes to %+v, but the alarms are %v", s, at, alarms)
		})
	}
	if met < 1000 {
		t.Errorf("only %d runs went wrong: the test says little", met)
	}
}

func TestP10WhichAlarms(t *testing.T) {
	for _, c := range []struct {
		s    string
		want []api.Alarm
	}{
		{"pre emp { }", nil},
		{"pre x -> nil { free x; }", nil},
		{"pre x -> nil { free x; free x; }", []api.Alarm{{Node: 1, What: api.Dangling}}},
		{"pre emp { x = nil; y = x.n; }", []api.Alarm{{Node: 1, What: api.Null}}},
		{"pre emp { x = y.n; }", []api.Alarm{{Node: 0, What: api.Null}, {Node: 0, What: api.Dangling}}},
		{"pre y != nil { y.n = x; }", []api.Alarm{{Node: 0, What: api.Dangling}}},
		{"pre emp { x = new; x = nil; }", []api.Alarm{{Node: 2, What: api.Leaks}}},
		{"pre emp { x = new; x = nil; free x; }", []api.Alarm{{Node: 2, What: api.Null}}},
		{"pre A -> nil { }", []api.Alarm{{Node: 0, What: api.Leaks}}},
		{"pre A -> nil { free x; free y; }", []api.Alarm{{Node: 0, What: api.Null}, {Node: 0, What: api.Dangling}, {Node: 1, What: api.Null}, {Node: 1, What: api.Dangling}}},
		{"pre x -> nil * y -> nil { if (*) { free x; } else { free y; } free x; x = y.n; }", []api.Alarm{{Node: 4, What: api.Dangling}, {Node: 5, What: api.Dangling}}},
		{"pre x -> nil * y -> nil { if (*) { free x; } else { x = nil; } y.n = x; x = nil; free x; }", []api.Alarm{{Node: 6, What: api.Null}}},
	} {
		p := load(t, c.s)
		if got := p.Alarms(); !reflect.DeepEqual(got, c.want) {
			t.Errorf("P10: %q: alarms %v, want %v", c.s, got, c.want)
		}
		if got := p.Verdict(); (got == api.Safe) != (c.want == nil) || got == api.GaveUp {
			t.Errorf("P10: %q: verdict %d", c.s, got)
		}
	}
}

// Alarms stand by node, then by kind, each once; there are none, nil, unless the
// verdict is Alarms.
func TestP10OrderOfAlarms(t *testing.T) {
	seed := uint32(41)
	for _, s := range several(&seed, 1500) {
		p := load(t, s)
		l := p.Alarms()
		if v := p.Verdict(); v < api.Safe || v > api.GaveUp || (v == api.Alarms) != (len(l) > 0) || v != api.Alarms && l != nil {
			t.Fatalf("P10: %q: verdict %d, alarms %v", s, v, l)
		}
		for k, a := range l {
			if a.Node < 0 || a.Node >= p.Nodes() || a.What != api.Leaks && a.What != api.Null && a.What != api.Dangling {
				t.Fatalf("P10: %q: %v", s, a)
			}
			if k > 0 && (l[k-1].Node > a.Node || l[k-1].Node == a.Node && l[k-1].What >= a.What) {
				t.Fatalf("P10: %q: %v", s, l)
			}
		}
	}
}

// found: all that the analyser tells of a program.
type found struct {
	verdict  int
	alarms   []api.Alarm
	formulas [][]string
}

func tellAll(p *lists.Program) found {
	f := found{verdict: p.Verdict(), alarms: p.Alarms()}
	for node := 0; node < p.Nodes(); node++ {
		f.formulas = append(f.formulas, p.Invariant(node))
	}
	return f
}

// What is asked again is told again, in whatever order, and whatever was done
// with the lists.
func TestP2AskedAgain(t *testing.T) {
	seed := uint32(43)
	for _, s := range several(&seed, 300) {
		p, q := load(t, s), load(t, s)
		first := tellAll(p)
		second := found{}
		for node := q.Nodes() - 1; node >= 0; node-- {
			second.formulas = append([][]string{q.Invariant(node)}, second.formulas...)
		}
		second.alarms, second.verdict = q.Alarms(), q.Verdict()
		if !reflect.DeepEqual(first, second) {
			t.Fatalf("P2: %q: %v, %v", s, first, second)
		}
		if cap(first.alarms) != len(first.alarms) {
			t.Errorf("P2: %q: room for %d alarms of %d", s, cap(first.alarms), len(first.alarms))
		}
		for k := range first.alarms {
			first.alarms[k] = api.Alarm{Node: -7, What: -7}
		}
		for _, l := range first.formulas {
			if cap(l) != len(l) {
				t.Errorf("P2: %q: room for %d formulas of %d", s, cap(l), len(l))
			}
			for k := range l {
				l[k] = "?"
			}
		}
		if again := tellAll(p); !reflect.DeepEqual(again, second) {
			t.Fatalf("P2: %q: %v, %v", s, again, second)
		}
	}
}

// Runs and the analyser do not touch one another.
func TestP2RunsWhileAsked(t *testing.T) {
	s := "pre ls(x,nil) { y = nil; while (x != nil) { z = x.n; x.n = y; y = x; x = z; } }"
	p := load(t, s)
	r, _ := p.Start([]int{3, 0, 0}, []int{3, 5, 5, 0})
	step(t, r, 0, 0, 0, 0, 0, 0, 0)
	first := tellAll(p)
	step(t, r, 0, 0, 0, 0, 0, 0, 0)
	checkState(t, r, 7, api.Done, []int{0, 5, 0}, []int{3, 0, 5, 3})
	if again := tellAll(p); !reflect.DeepEqual(first, again) || !reflect.DeepEqual(first, tellAll(load(t, s))) {
		t.Errorf("P2: %v, %v", first, again)
	}
}

func TestP11NoSuchNode(t *testing.T) {
	for _, c := range table {
		p := load(t, c.s)
		for _, node := range []int{-1 << 63, -1, p.Nodes(), p.Nodes() + 1, 1<<63 - 1} {
			if f := p.Invariant(node); f != nil {
				t.Errorf("P11: %q: of no node %v", c.s, f)
			}
		}
	}
	// Where no run comes, and nothing is known, there is no formula.
	p := load(t, "pre x -> nil { if (x = nil) { skip; } }")
	if f := p.Invariant(1); f != nil {
		t.Errorf("P11: %v", f)
	}
	p = load(t, "pre x != x { skip; }")
	if p.Invariant(0) != nil || p.Invariant(1) != nil {
		t.Errorf("P11: %v, %v", p.Invariant(0), p.Invariant(1))
	}
}

func TestP11WhatIsKnown(t *testing.T) {
	p := load(t, "pre x -> A * y = nil { z = x.n; free x; x = new; }")
	for node, want := range []string{"y = nil * x -> A", "y = nil * x -> z", "y = nil * x != nil", "y = nil * x -> nil"} {
		f := p.Invariant(node)
		if len(f) != 1 {
			t.Fatalf("P11: node %d: %v", node, f)
		}
		first, e := lists.Entails(f[0], want)
		second, g := lists.Entails(want, f[0])
		if !first || !second || e != api.OK || g != api.OK {
			t.Errorf("P11: node %d: %q, want %q", node, f[0], want)
		}
	}
}
