package follows

import (
	"fmt"
	"strings"
	"testing"

	"lists/api"
	"lists/cells"
	"lists/classes"
	"lists/holds"
	"lists/syntax"
)

// next is a small generator of numbers, so that the tests are always the same.
func next(seed *uint32, below int) int {
	*seed = *seed*1664525 + 1013904223
	return int(*seed>>8) % below
}

// variables stands ahead of the first formula, so that their numbers are known.
const variables = "x = x * y = y * z = z * w = w * "

// model is a store and cells.
type model struct {
	store []int
	heap  *cells.Cells
}

// small: all models of two variables, with cells at most at 1, 2, 3, and values up to 4.
func small() []model {
	list := []model{}
	for code := 0; code < 6*6*6; code++ {
		var heap cells.Cells
		for addr, rest := 1, code; addr <= 3; addr, rest = addr+1, rest/6 {
			if rest%6 > 0 {
				heap.Add(addr, rest%6-1)
			}
		}
		for s := 0; s < 25; s++ {
			list = append(list, model{store: []int{s % 5, s / 5}, heap: &heap})
		}
	}
	return list
}

func random(seed *uint32) string {
	names := []string{"x", "y", "A", "B", "x", "A", "nil"}
	atoms := []string{}
	count := 1 + next(seed, 3)
	for i := 0; i < count; i++ {
		form := []string{"emp", "%s = %s", "%s != %s", "%s -> %s", "%s -> %s", "ls(%s,%s)", "ls(%s,%s)", "ls(%s,%s)"}[next(seed, 8)]
		if form != "emp" {
			form = fmt.Sprintf(form, names[next(seed, 6)], names[next(seed, 7)])
		}
		atoms = append(atoms, form)
	}
	return strings.Join(atoms, " * ")
}

// Wherever the answer is true the second holds of every small model of the
// first, and a first formula that is said to hold nowhere has none.
func TestSoundOfSmallModels(t *testing.T) {
	models := small()
	seed := uint32(7)
	seen, falses := 0, 0
	for i := 0; i < 20000; i++ {
		s, u := random(&seed), random(&seed)
		first, second := read(t, "x = x * y = y * "+s, u)
		got, e := Follows(first, second)
		if !got && e == api.OK || e == api.ErrFalse && i%4 > 0 {
			continue
		}
		for _, m := range models {
			if !holds.Holds(first, m.store, m.heap) {
				continue
			}
			if e == api.ErrFalse {
				t.Fatalf("P9: %q holds of %v, %v", s, m.store, m.heap.Numbers())
			}
			if !holds.Holds(second, m.store, m.heap) {
				t.Fatalf("P9: %q, %q: not of %v, %v", s, u, m.store, m.heap.Numbers())
			}
		}
		if got {
			seen++
		} else {
			falses++
		}
	}
	if seen < 500 || falses < 500 {
		t.Errorf("%d true, %d false: the test says little", seen, falses)
	}
}

// long makes a formula of many atoms, most of which begin at names of their own.
func long(seed *uint32) []string {
	starts := strings.Split("ABCDEFGHxyzw", "")
	for i := range starts {
		k := next(seed, i+1)
		starts[i], starts[k] = starts[k], starts[i]
	}
	atoms := []string{}
	count := 1 + next(seed, 9)
	for i := 0; i < count; i++ {
		end := []string{starts[(i+1)%12], starts[(i+1)%12], starts[next(seed, 12)], "nil"}[next(seed, 4)]
		form := []string{"%s->%s", "ls(%s,%s)", "%s!=%s"}[next(seed, 9)/4]
		atoms = append(atoms, fmt.Sprintf(form, starts[i], end))
	}
	return atoms
}

// looser makes of a formula one that may follow from it: the atoms in another
// order, points-to made lists, lists laid together, names changed.
func looser(seed *uint32, atoms []string) []string {
	list := append([]string{}, atoms...)
	for i := range list {
		k := next(seed, i+1)
		list[i], list[k] = list[k], list[i]
	}
	for i, a := range list {
		if len(a) == 4 && next(seed, 3) == 0 {
			list[i] = fmt.Sprintf("ls(%c,%c)", a[0], a[3])
		}
	}
	for i := 0; i < len(list); i++ {
		for k := 0; k < len(list); k++ {
			if i != k && strings.HasPrefix(list[i], "ls(") && len(list[k]) == 7 && list[i][5] == list[k][3] && next(seed, 3) == 0 {
				list[i] = list[i][:5] + list[k][5:]
				list[k] = "emp"
			}
		}
	}
	text := strings.Join(list, "*")
	if next(seed, 2) == 0 {
		text = strings.NewReplacer("A", "C", "C", "A", "B", "H", "H", "D", "D", "B").Replace(text)
	}
	if next(seed, 3) == 0 {
		text = strings.Replace(text, []string{"x", "y", "nil"}[next(seed, 3)], []string{"B", "E"}[next(seed, 2)], 1)
	}
	return strings.Split(text, "*")
}

// example tries to make a model of a formula: names with values below a number,
// so that some are alike, and lists of several cells.
func example(seed *uint32, atoms []syntax.Atom, below int) (model, bool) {
	var value [3][8]int
	for i := 0; i < 8; i++ {
		value[syntax.Var][i] = next(seed, below)
		value[syntax.Hidden][i] = next(seed, below)
	}
	var heap cells.Cells
	for _, a := range atoms {
		at, end := value[a.Left.Kind][a.Left.Index], value[a.Right.Kind][a.Right.Index]
		more := 0
		if a.Kind == syntax.List {
			more = next(seed, 4)
		}
		for a.Kind == syntax.Points || a.Kind == syntax.List {
			to := end
			if more > 0 {
				to = next(seed, below)
			}
			if at == 0 || !heap.Add(at, to) {
				return model{}, false
			}
			if more == 0 {
				break
			}
			more--
			at = to
		}
	}
	m := model{store: value[syntax.Var][:4], heap: &heap}
	return m, holds.Holds(atoms, m.store, m.heap)
}

func TestSoundOfLongFormulas(t *testing.T) {
	seed := uint32(11)
	seen, examples := 0, 0
	for i := 0; i < 4000; i++ {
		atoms := long(&seed)
		s, u := strings.Join(atoms, "*"), strings.Join(looser(&seed, atoms), "*")
		first, second := read(t, variables+s, u)
		got, _ := Follows(first, second)
		if !got {
			continue
		}
		seen++
		for k := 0; k < 60; k++ {
			m, ok := example(&seed, first, 30)
			if !ok {
				continue
			}
			examples++
			if !holds.Holds(second, m.store, m.heap) {
				t.Fatalf("P9: %q, %q: not of %v, %v", s, u, m.store, m.heap.Numbers())
			}
		}
	}
	if seen < 400 || examples < 4000 {
		t.Errorf("%d true, %d examples: the test says little", seen, examples)
	}
}

// crossed makes a formula of few atoms among which there are many lists, and
// some `!=`.
func crossed(seed *uint32, names string, apart int) string {
	atoms := []string{}
	count := 2 + next(seed, 3)
	for i := 0; i < count+apart; i++ {
		form := []string{"%c->%c", "ls(%c,%c)"}[next(seed, 2)]
		if i >= count {
			form = "%c!=%c"
		}
		atoms = append(atoms, fmt.Sprintf(form, names[next(seed, len(names))], names[next(seed, len(names))]))
	}
	return strings.Join(atoms, "*")
}

// What is seen only when lists are cut up holds of lists of all lengths.
func TestSoundOfListsCutUp(t *testing.T) {
	seed := uint32(17)
	seen, examples := 0, 0
	for i := 0; i < 150000; i++ {
		s, u := crossed(&seed, "ABxyxyz", 0), crossed(&seed, "ABCDABCDABCxyz", next(&seed, 4))
		first, second := read(t, variables+s, u)
		got, _ := Follows(first, second)
		q := &search{first: classes.Of(first), second: classes.Of(second), steps: patience}
		if !got || q.drop() && q.fits(q.first.Owners) {
			continue
		}
		seen++
		for k := 0; k < 400; k++ {
			m, ok := example(&seed, first, 9)
			if !ok {
				continue
			}
			examples++
			if !holds.Holds(second, m.store, m.heap) {
				t.Fatalf("P9: %q, %q: not of %v, %v", s, u, m.store, m.heap.Numbers())
			}
		}
	}
	if seen < 100 || examples < 2000 {
		t.Errorf("%d true, %d examples: the test says little", seen, examples)
	}
}

// A formula that holds somewhere follows from itself, however long it is.
func TestFollowsFromItself(t *testing.T) {
	seed := uint32(13)
	seen := 0
	for i := 0; i < 4000; i++ {
		s := strings.Join(long(&seed), "*")
		first, second := read(t, s, s)
		got, e := Follows(first, second)
		if got != (e == api.OK) {
			t.Fatalf("P9: %q of itself: %v, %d", s, got, e)
		}
		if got {
			seen++
		}
	}
	if seen < 1000 {
		t.Errorf("only %d held somewhere: the test says little", seen)
	}
}

// The worst that texts can do must not take long: all orders of the names would
// have to be tried here.
func TestFollowsEndsSoon(t *testing.T) {
	for _, c := range [][2]string{
		{"A->nil*B->nil*C->nil*D->nil*E->nil*F->nil*G->nil*H->nil", "A->nil*B->nil*C->nil*D->nil*E->nil*F->nil*G->nil*H->nil*x!=y"},
		{"ls(C,B)*D->C*ls(E,D)*ls(F,E)*ls(G,F)*ls(H,G)*ls(x,H)*ls(y,x)*ls(z,y)*ls(w,z)*ls(A,w)", "ls(A,G)*ls(B,H)*ls(C,x)*ls(D,y)*ls(E,z)*F->w*B!=w"},
		{"ls(D,nil)*ls(E,nil)*ls(F,nil)*ls(G,nil)*ls(H,nil)*ls(x,nil)*ls(y,nil)*ls(z,nil)*w->nil*ls(A,nil)*B->nil*ls(C,nil)", "ls(z,nil)*ls(w,nil)*A->nil*B->nil*C->nil*ls(D,nil)*ls(E,nil)*F->nil*ls(G,nil)*H->nil"},
		{"A->nil*B->nil*C->nil*D->nil*E->nil*F->nil*G->nil*H->nil", "A->nil*B->nil*C->nil*D->nil*E->nil*F->nil*G->nil*H->x"},
		{"ls(A,B)*ls(B,C)*ls(C,D)*ls(D,E)*ls(E,F)*ls(F,G)*ls(G,H)*ls(H,x)*ls(x,y)*ls(y,z)*ls(z,w)*ls(w,A)", "ls(A,B)*ls(C,D)*ls(E,F)*ls(G,H)*x!=x"},
		{"ls(A,B)*ls(B,C)*ls(C,D)*ls(D,E)*ls(E,F)*ls(F,G)*ls(G,H)*ls(H,x)*ls(x,y)*ls(y,z)*ls(z,w)*ls(w,A)", "A->B*ls(C,D)*E->F*ls(G,H)*A!=B*C!=D*E!=F*A!=H*B!=G"},
		{"ls(A,nil)*ls(B,nil)*ls(C,nil)*ls(D,nil)*ls(E,nil)*ls(F,nil)*ls(G,nil)*ls(H,nil)*ls(x,nil)*ls(y,nil)*ls(z,nil)*ls(w,nil)", "ls(A,nil)*ls(B,nil)*ls(C,nil)*ls(D,nil)*ls(E,nil)*ls(F,nil)*ls(G,nil)*H->nil*ls(x,nil)*ls(y,nil)*ls(z,nil)*ls(w,nil)"},
	} {
		first, second := read(t, c[0], c[1])
		if got, e := Follows(first, second); got || e != api.OK {
			t.Errorf("P9: %q, %q: %v, %d", c[0], c[1], got, e)
		}
	}
}
