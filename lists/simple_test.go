package lists_test

import (
	"fmt"
	"reflect"
	"sort"
	"strings"
	"testing"

	"lists/api"
	"lists/lists"
)

// beginning is a store and cells to begin with.
type beginning struct{ store, cells []int }

// value tells a term's value; variables and hidden names are numbered together.
func value(names string, values []int, term string) int {
	if i := strings.Index(names, term); i >= 0 {
		return values[i]
	}
	return 0 // nil
}

// beginnings: all stores and cells that a program without `ls` can begin with,
// but for which numbers they have. The call itself says whether the precondition
// holds.
func beginnings(t *testing.T, s string) []beginning {
	t.Helper()
	p := load(t, s)
	pre := strings.ReplaceAll(strings.TrimPrefix(s[:strings.Index(s, "{")], "pre "), " ", "")
	names := strings.Join(letters(p), "")
	for _, c := range pre {
		if c >= 'A' && c <= 'Z' && !strings.ContainsRune(names, c) {
			names += string(c)
		}
	}
	list := []beginning{}
	seen := map[string]bool{}
	var fill func(values []int, most int)
	fill = func(values []int, most int) {
		if len(values) < len(names) {
			for v := 0; v <= most+1; v++ {
				fill(append(append([]int{}, values...), v), max(most, v))
			}
			return
		}
		heap := map[int]int{}
		addresses := []int{}
		for _, atom := range strings.Split(pre, "*") {
			if ends := strings.Split(atom, "->"); len(ends) == 2 {
				a := value(names, values, ends[0])
				heap[a] = value(names, values, ends[1])
				addresses = append(addresses, a)
			}
		}
		sort.Ints(addresses)
		b := beginning{store: values[:p.Vars()], cells: []int{}}
		for _, a := range addresses {
			b.cells = append(b.cells, a, heap[a])
		}
		if _, e := p.Start(b.store, b.cells); e == api.OK && !seen[fmt.Sprint(b)] {
			seen[fmt.Sprint(b)] = true
			list = append(list, b)
		}
	}
	fill(nil, 0)
	return list
}

// unused: addresses for `new`: those among the values of a state that are no cells, and one
// that is no value at all.
func unused(s api.State) []int {
	seen := map[int]bool{}
	there := map[int]bool{0: true}
	for _, v := range append(append([]int{}, s.Store...), s.Cells...) {
		seen[v] = true
	}
	for i := 0; i < len(s.Cells); i += 2 {
		there[s.Cells[i]] = true
	}
	fresh := 1
	for seen[fresh] {
		fresh++
	}
	list := []int{fresh}
	for v := range seen {
		if !there[v] {
			list = append(list, v)
		}
	}
	sort.Ints(list)
	return list
}

// way is a run: how it began, and its choices so far.
type way struct {
	from    beginning
	choices []int
}

// again does a run anew.
func (w way) again(t *testing.T, p *lists.Program) *lists.Run {
	t.Helper()
	r, e := p.Start(w.from.store, w.from.cells)
	if e != api.OK {
		t.Fatalf("P6: %d", e)
	}
	for _, c := range w.choices {
		if e := r.Step(c); e != api.OK {
			t.Fatalf("P7: %v: %d", w, e)
		}
	}
	return r
}

// meets: what all runs of a program without `while` and `ls` meet that goes wrong
// or leaks; whole is false if there are more than so many states to look at.
func meets(t *testing.T, s string, most int) (wrong map[api.Alarm]bool, whole bool) {
	t.Helper()
	p := load(t, s)
	wrong = map[api.Alarm]bool{}
	seen := map[string]bool{}
	list := []way{}
	visit := func(w way) {
		at := w.again(t, p).State()
		if key := fmt.Sprint(at); !seen[key] {
			seen[key] = true
			list = append(list, w)
		}
	}
	for _, b := range beginnings(t, s) {
		visit(way{from: b})
	}
	for i := 0; i < len(list); i++ {
		if i == most {
			return wrong, false
		}
		r := list[i].again(t, p)
		at := r.State()
		if at.What == api.Going {
			choices := []int{0, 1}
			if r.Step(0) == api.ErrArg { // Only `new` refuses a choice.
				choices = unused(at)
			}
			for _, c := range choices {
				visit(way{list[i].from, append(append([]int{}, list[i].choices...), c)})
			}
		} else if at.What != api.Done {
			wrong[api.Alarm{Node: at.Node, What: at.What}] = true
		}
	}
	return wrong, true
}

// exact: the verdict is Safe if and only if nothing goes wrong, it is not GaveUp,
// and the alarms are what runs meet. As an analyser may not miss what goes wrong
// at one node because it tells of another (P10), all of it is told.
func exact(t *testing.T, s string, most int) (verdict int, whole bool) {
	t.Helper()
	p := load(t, s)
	verdict = p.Verdict()
	told := map[api.Alarm]bool{}
	for _, a := range p.Alarms() {
		told[a] = true
	}
	wrong, whole := meets(t, s, most)
	for a := range wrong {
		if !told[a] {
			t.Fatalf("P12: %q: a run meets %v, but the alarms are %v", s, a, p.Alarms())
		}
	}
	for a := range told {
		if a.What == api.Leaks && a.Node != p.Nodes()-1 {
			t.Fatalf("P12: %q: a leak ahead of the end: %v", s, p.Alarms())
		}
		if whole && !wrong[a] {
			t.Fatalf("P12: %q: %v is told, but no run meets it", s, a)
		}
	}
	if verdict == api.GaveUp || (verdict == api.Safe) != (len(told) == 0) {
		t.Fatalf("P12: %q: verdict %d, alarms %v", s, verdict, p.Alarms())
	}
	return verdict, whole
}

// Programs at the bounds that the document names, with all that goes wrong in
// them.
func TestP12AtTheBounds(t *testing.T) {
	at := func(node, what int) api.Alarm { return api.Alarm{Node: node, What: what} }
	for _, c := range []struct {
		s    string
		want []api.Alarm
	}{
		// Five tests, side by side and one in another.
		{"pre emp { x = new; if (x = nil) { free y; } if (x != x) { free y; } if (*) { skip; } else { skip; } if (x = y) { y = x.n; } if (y != x) { free x; } else { free x; } }", nil},
		{"pre x -> nil { if (*) { if (*) { if (*) { if (*) { if (*) { free x; } } } } } free x; }", []api.Alarm{at(6, api.Dangling)}},
		{"pre x -> nil { if (x != nil) { if (y != nil) { if (x != y) { if (z = y) { if (z = x) { free w; } } } } } }", nil},
		// Four cells are made.
		{"pre emp { x = new; y = new; z = new; w = new; x.n = y; y.n = z; z.n = w; w.n = x; free x; free y; free z; free w; }", nil},
		{"pre emp { x = new; y = new; y.n = x; x = new; x.n = y; y = new; y.n = x; x = nil; }", nil},
		{"pre emp { x = new; y = new; y.n = x; x = new; x.n = y; y = new; y.n = x; y = nil; x = nil; }", []api.Alarm{at(9, api.Leaks)}},
		{"pre emp { x = new; free x; y = new; if (x = y) { free y; y = new; if (x = y) { free x; y = new; if (y = x) { free y; free x; } } } }", []api.Alarm{at(11, api.Dangling)}},
		// Six names.
		{"pre x -> A * A -> B * B -> y * z != A * z = z * w = w { x = x.n; x = x.n; }", []api.Alarm{at(2, api.Leaks)}},
		{"pre x -> A * y -> B * A != B { z = x.n; w = y.n; if (z = w) { free z; } }", nil},
		{"pre x -> A * y -> B { z = x.n; w = y.n; if (z = w) { free z; free w; } }", []api.Alarm{at(3, api.Null), at(3, api.Dangling), at(4, api.Dangling)}},
		{"pre A -> B * B -> C * C -> D * D -> E * E -> F { }", []api.Alarm{at(0, api.Leaks)}},
		{"pre x -> A * A -> B * B -> C * C -> D * D -> E { x = x.n; }", []api.Alarm{at(1, api.Leaks)}},
		{"pre x -> A * A -> B * B -> C * C -> D * D -> x { x = x.n; }", nil},
		// Eight names and cells that are made.
		{"pre x -> A * A -> B * y = y * z = z { w = new; free w; y = new; if (w = y) { free w; } else { free y; } }", nil},
		{"pre x -> A * A -> B * y = y * z = z { w = new; free w; y = new; if (w = y) { free w; z = w.n; } else { free y; } }", []api.Alarm{at(5, api.Dangling)}},
		{"pre A -> nil * B -> nil * x = x { x = new; y = new; z = new; x = y; }", []api.Alarm{at(4, api.Leaks)}},
		{"pre x != y * y != z * z != x * w != nil { x = new; y = new; z = new; w = new; if (x = y) { free z; free z; } }", nil},
		{"pre emp { x = y; y = new; z = new; if (z = x) { free x; free z; } w = new; x = new; if (w = x) { free w; } }", []api.Alarm{at(5, api.Dangling)}},
	} {
		if !isSimple(c.s) {
			t.Errorf("P12: %q: the test speaks of simple programs", c.s)
		}
		if got := load(t, c.s).Alarms(); !reflect.DeepEqual(got, c.want) {
			t.Errorf("P12: %q: %v, want %v", c.s, got, c.want)
		}
		if _, whole := exact(t, c.s, 60000); !whole {
			t.Errorf("P12: %q: the test does not see all runs", c.s)
		}
	}
}

// Nothing goes wrong where no run comes, and nothing at all where none begins.
func TestP12NoRuns(t *testing.T) {
	for _, s := range []string{
		"pre x != x { x.n = x; }",
		"pre A != A { x = nil; free x; }",
		"pre nil != nil { x = new; x = nil; }",
		"pre nil -> x { free x; free x; }",
		"pre x = nil * x -> nil { x = nil; x = x.n; }",
		"pre x -> y * x -> y { free x; free x; }",
		"pre A -> x * B -> x * A = B { }",
		"pre x = A * A = B * B = y * y != x { free x; }",
		"pre x -> nil * y -> nil * x = y { x = nil; }",
		"pre x -> nil { if (x = nil) { free x; free x; } }",
		"pre emp { x = nil; if (x != nil) { x = new; x = nil; free x; } }",
	} {
		if v, whole := exact(t, s, 20000); v != api.Safe || !whole {
			t.Errorf("P12: %q: verdict %d", s, v)
		}
	}
}

// However much there is to look at, a simple program is not given up.
func TestP12NeverGivenUp(t *testing.T) {
	for _, s := range []string{
		"pre emp*A->nil*y->A*x->y*B->x{if(*){z.n=x;x=z;}else{free w;}x=new;y=z.n;y=new;w.n=y;if(*){x=x;y=z;}else{w=x;}if(*){w=z.n;z=nil;}y.n=x;if(*){y=z;}else{free y;}if(*){x.n=x;x.n=x;}else{w=w;}y=nil;z=nil;z=x.n;x=w.n;z=w.n;y=x.n;y=w.n;}",
		"pre A->B*B->x*x->y*y->z{if(x=y){free z;}else{x=z.n;}if(y=z){free x;}else{y=w.n;}if(z=w){free y;}else{z=x.n;}if(*){w=new;}else{w=y;}if(*){x=new;}else{x=z;}free x;free y;free z;free w;x=y.n;y=z.n;z=w.n;w=x.n;}",
		"pre x->y*y->z{x=new;if(*){free x;}if(*){y=new;}y=new;w.n=w;y=new;if(*){y.n=w;}else{w=y.n;}w=z.n;if(*){y=x.n;}else{free x;}if(*){free w;}w=y;y=z;z=nil;z=x;z=z;z=y;y=y;z=nil;z=nil;z=w;z=nil;w=y;z=x;y=nil;x=nil;y=w;y=nil;x=z.n;x=y;y=w;w=x;}",
		"pre A->x*B->A{if(*){x=y;}else{y=z;}if(*){z=w;}else{w=x;}if(*){x=w;}if(*){y=w;}if(*){z=x;}x.n=y;y.n=z;z.n=w;w.n=x;x=x.n;y=y.n;z=z.n;w=w.n;x=new;y=new;x.n=z;y.n=w;z=x.n;w=y.n;free x;free z;}",
	} {
		if !isSimple(s) {
			t.Errorf("P12: %q: the test speaks of simple programs", s)
		}
		if v := load(t, s).Verdict(); v != api.Alarms {
			t.Errorf("P12: %q: verdict %d", s, v)
		}
	}
}

// blocks makes commands with no more tests and `new` than are left.
func blocks(seed *uint32, vars string, tests, news *int, depth int) string {
	v, w := string(vars[next(seed, len(vars))]), string(vars[next(seed, len(vars))])
	forms := []string{v + "=" + w + ";", v + "=nil;", v + "=" + w + ".n;", v + ".n=" + w + ";", v + ".n=nil;", "free " + v + ";", "skip;"}
	asked := []string{"*", v + "=" + w, v + "!=" + w, v + "=nil", v + "!=nil"}
	s := ""
	for count := 1 + next(seed, 3); count > 0; count-- {
		switch kind := next(seed, 5); {
		case kind < 2 && *tests > 0 && depth > 0:
			*tests--
			s += "if(" + asked[next(seed, len(asked))] + "){" + blocks(seed, vars, tests, news, depth-1) + "}"
			if kind == 0 {
				s += "else{" + blocks(seed, vars, tests, news, depth-1) + "}"
			}
		case kind == 2 && *news > 0:
			*news--
			s += v + "=new;"
		default:
			s += forms[next(seed, len(forms))]
		}
	}
	return s
}

// simple makes a simple program.
func simple(seed *uint32) string {
	vars, hidden := "xyzw"[:1+next(seed, 4)], "ABCD"[:next(seed, 3)]
	names := strings.Split(vars+hidden, "")
	atoms := []string{}
	for _, n := range names {
		end := append([]string{"nil"}, names...)[next(seed, len(names)+1)]
		sign := []string{"->", "->", "->", "!=", "="}[next(seed, 5)]
		if sign != "=" || next(seed, 3) == 0 {
			atoms = append(atoms, n+sign+end)
		}
	}
	if len(atoms) == 0 {
		atoms = append(atoms, "emp")
	}
	tests, news := 5, min(4, 8-len(names))
	return "pre " + strings.Join(atoms, "*") + "{" + blocks(seed, vars, &tests, &news, 3) + blocks(seed, vars, &tests, &news, 3) + blocks(seed, vars, &tests, &news, 3) + "}"
}

// isSimple tells whether a text is a simple program (P12).
func isSimple(s string) bool {
	p, e := lists.Load(s)
	if e != api.OK {
		return false
	}
	names, tests, news := p.Vars(), 0, 0
	hidden := map[string]bool{}
	for _, w := range strings.Fields(p.Text()) {
		switch {
		case w == "while" || w == "ls":
			return false
		case w == "if":
			tests++
		case w == "new":
			news++
		case len(w) == 1 && w[0] >= 'A' && w[0] <= 'Z':
			hidden[w] = true
		}
	}
	names += len(hidden)
	return tests <= 5 && news <= 4 && names <= 6 && names+news <= 8
}

// Of simple programs of all kinds just that is told which runs meet. By chance
// few programs are safe: so others are made of the document's.
func TestP12Exact(t *testing.T) {
	seed := uint32(71)
	var verdicts [3]int
	for i := 0; i < 4000; i++ {
		s := simple(&seed)
		if i%2 == 0 {
			s = table[next(&seed, len(table))].s
			for k := next(&seed, 5); k > 0; k-- {
				s = changed(&seed, s)
			}
		}
		if !isSimple(s) {
			continue
		}
		verdict, whole := exact(t, s, 4000)
		if whole && len(beginnings(t, s)) > 0 {
			verdicts[verdict]++
		}
	}
	if verdicts[api.Safe] < 200 || verdicts[api.Alarms] < 1500 {
		t.Errorf("%v: the test says little", verdicts)
	}
}
