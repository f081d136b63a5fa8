package analysis

import (
	"strings"
	"testing"

	"lists/api"
	"lists/holds"
	"lists/syntax"
)

// tell: a program's alarms as a set.
func tell(r *Result) map[api.Alarm]bool {
	set := map[api.Alarm]bool{}
	for _, a := range r.Alarms {
		set[a] = true
	}
	return set
}

// pick answers one of several texts, with its letters v and w made variables.
func pick(seed *uint32, vars string, forms ...string) string {
	v := vars[next(seed, len(vars))]
	w := vars[next(seed, len(vars))]
	return strings.NewReplacer("V", string(v), "W", string(w)).Replace(forms[next(seed, len(forms))])
}

func plain(seed *uint32, vars string) string {
	return pick(seed, vars, "V=W;", "V=nil;", "V=W.n;", "V=W.n;", "V.n=W;", "V.n=W;", "V.n=nil;", "V=new;", "V=new;", "free V;", "skip;")
}

func test(seed *uint32, vars string) string {
	return "(" + pick(seed, vars, "*", "V=W", "V!=W", "V=nil", "V!=nil") + ")"
}

// body makes commands; the letters l and i say where loops and tests may stand.
func body(seed *uint32, vars, may string, depth int) string {
	s := ""
	for count := 1 + next(seed, 4); count > 0; count-- {
		kind := next(seed, 8)
		switch {
		case kind == 0 && depth > 0 && strings.Contains(may, "l"):
			s += "while" + test(seed, vars) + "{" + body(seed, vars, may, depth-1) + "}"
		case kind == 1 && depth > 0:
			s += "if" + test(seed, vars) + "{" + body(seed, vars, may, depth-1) + "}"
		case kind == 2 && depth > 0:
			s += "if" + test(seed, vars) + "{" + body(seed, vars, may, depth-1) + "}else{" + body(seed, vars, may, depth-1) + "}"
		default:
			s += plain(seed, vars)
		}
	}
	return s
}

// before makes a precondition that mostly holds somewhere.
func before(seed *uint32, vars, hidden, forms string) string {
	names := strings.Split(vars+hidden, "")
	for i := range names {
		k := next(seed, i+1)
		names[i], names[k] = names[k], names[i]
	}
	list := []string{"emp"}
	for _, n := range names[:next(seed, len(names)+1)] {
		end := append(names, "nil")[next(seed, len(names)+1)]
		switch forms[next(seed, len(forms))] {
		case 'p':
			list = append(list, n+"->"+end)
		case 'l':
			list = append(list, "ls("+n+","+end+")")
		case 'd':
			list = append(list, n+"!="+end)
		case 'e':
			list = append(list, n+"="+end)
		}
	}
	return strings.Join(list, "*")
}

// Of simple programs just what some run meets is told (P12), leaks at the end
// alone.
func TestExactOfSimplePrograms(t *testing.T) {
	seed := uint32(101)
	var verdicts [3]int
	for i := 0; i < 6000; i++ {
		vars := "xyzw"[:1+next(&seed, 4)]
		s := "pre " + before(&seed, vars, "ABCDE"[:next(&seed, 6)], "pppde") + "{" + body(&seed, vars, "i", 2) + body(&seed, vars, "i", 1) + "}"
		if len(s) > api.MaxText {
			continue
		}
		code := read(t, s)
		if !isSimple(code) {
			continue
		}
		r := Of(code)
		verdicts[r.Verdict]++
		places, wrong := travels(code, all(code), 1<<30)
		told := tell(r)
		for a := range wrong {
			if !told[a] {
				t.Fatalf("P10: %q: %v is not told: %v", s, a, r.Alarms)
			}
		}
		for a := range told {
			if !wrong[a] {
				t.Fatalf("P12: %q: %v is told, but no run meets it: %v", s, a, wrong)
			}
		}
		if r.Verdict == api.GaveUp || (r.Verdict == api.Safe) != (len(wrong) == 0) {
			t.Fatalf("P12: %q: verdict %d, %v", s, r.Verdict, wrong)
		}
		if r.Verdict == api.Safe {
			covered(t, s, code, r, places)
		}
	}
	if verdicts[api.Safe] < 500 || verdicts[api.Alarms] < 1000 {
		t.Errorf("%v: the test says little", verdicts)
	}
}

// covered: at each place one of the node's formulas holds (P11).
func covered(t *testing.T, s string, code *syntax.Program, r *Result, places []place) {
	t.Helper()
	formulas := make([][][]syntax.Atom, len(code.Nodes))
	for node := range formulas {
		for _, f := range r.Known[node] {
			formulas[node] = append(formulas[node], atoms(t, code, f.Write(code.Vars)))
		}
	}
	for _, p := range places {
		ok := false
		for _, f := range formulas[p.node] {
			ok = ok || f == nil || holds.Holds(f, p.store, p.cells())
		}
		if !ok {
			t.Fatalf("P11: %q: at node %d, of %v, %v none holds", s, p.node, p.store, p.heap)
		}
	}
}

// sound: whatever goes wrong is told, and of safe programs all places are known.
func sound(t *testing.T, s string, seed *uint32) int {
	t.Helper()
	code := read(t, s)
	r := Of(code)
	if r.Verdict == api.GaveUp {
		return r.Verdict
	}
	places, wrong := travels(code, some(code, seed, 60), 500)
	told := tell(r)
	lost := false
	for a := range told {
		lost = lost || a.What == api.Leaks
	}
	for a := range wrong {
		if a.What == api.Leaks && !lost || a.What != api.Leaks && !told[a] {
			t.Fatalf("P10: %q: %v is not told: %v", s, a, r.Alarms)
		}
	}
	if r.Verdict == api.Safe {
		covered(t, s, code, r, places)
	}
	return r.Verdict
}

func TestSoundOfAnyProgram(t *testing.T) {
	seed := uint32(103)
	var verdicts [3]int
	for i := 0; i < 6000; i++ {
		vars := "xyzw"[:1+next(&seed, 4)]
		s := "pre " + before(&seed, vars, "ABC"[:next(&seed, 4)], "pllllde") + "{" + body(&seed, vars, "il", 2) + body(&seed, vars, "il", 2) + "}"
		if len(s) <= api.MaxText {
			verdicts[sound(t, s, &seed)]++
		}
	}
	if verdicts[api.Safe] < 300 || verdicts[api.Alarms] < 1000 || verdicts[api.GaveUp] > 300 {
		t.Errorf("%v: the test says little", verdicts)
	}
}
