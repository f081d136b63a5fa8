package lists_test

import (
	"reflect"
	"strings"
	"testing"

	"lists/api"
	"lists/lists"
)

// rotated writes each variable k letters further on. A program's text keeps its
// words apart, so that letters which stand alone are easily seen.
func rotated(text string, k int) string {
	words := strings.Fields(text)
	for i, w := range words {
		if len(w) == 1 && w[0] >= 'a' && w[0] <= 'z' && (i == 0 || words[i-1] != ".") {
			words[i] = string('a' + (w[0]-'a'+byte(k))%26)
		}
	}
	return strings.Join(words, " ")
}

// apart writes the words of a formula with blanks between.
func apart(formula string) string {
	return strings.NewReplacer("ls(", "ls ( ", ",", " , ", ")", " )").Replace(formula)
}

// tight takes the blanks away where words do not need them.
func tight(text string) string {
	s := strings.ReplaceAll(text, " ", "")
	return strings.NewReplacer("pre", "pre ", "free", "free ").Replace(s)
}

func TestP13OtherLetters(t *testing.T) {
	seed := uint32(51)
	checked := 0
	for i, s := range several(&seed, 500) {
		p := load(t, s)
		for _, k := range []int{1 + i%25, 25} {
			q, e := lists.Load(tight(rotated(p.Text(), k)))
			if e != api.OK {
				continue
			}
			checked++
			first, second := tellAll(p), tellAll(q)
			for _, l := range first.formulas {
				for j := range l {
					l[j] = rotated(apart(l[j]), k)
				}
			}
			for _, l := range second.formulas {
				for j := range l {
					l[j] = strings.Join(strings.Fields(apart(l[j])), " ")
				}
			}
			if !reflect.DeepEqual(first, second) {
				t.Fatalf("P13: %q, letters %d further on: %v, %v", s, k, first, second)
			}
		}
	}
	if checked < 900 {
		t.Errorf("only %d programs: the test says little", checked)
	}
}

func TestP13SkipAhead(t *testing.T) {
	seed := uint32(53)
	checked := 0
	for _, s := range several(&seed, 1000) {
		p := load(t, s)
		q, e := lists.Load(strings.Replace(s, "{", "{skip;", 1))
		if e != api.OK || p.Verdict() == api.GaveUp || q.Verdict() == api.GaveUp {
			continue
		}
		checked++
		l := p.Alarms()
		for k := range l {
			l[k].Node++
		}
		if p.Verdict() != q.Verdict() || !reflect.DeepEqual(l, q.Alarms()) {
			t.Fatalf("P13: %q: %d, %v, with a skip ahead %d, %v", s, p.Verdict(), p.Alarms(), q.Verdict(), q.Alarms())
		}
	}
	if checked < 800 {
		t.Errorf("only %d programs: the test says little", checked)
	}
}

func TestP13TextReadAgain(t *testing.T) {
	seed := uint32(57)
	for _, s := range several(&seed, 700) {
		p := load(t, s)
		if len(p.Text()) > api.MaxText {
			continue
		}
		q := load(t, p.Text())
		if p.Text() != q.Text() || !reflect.DeepEqual(tellAll(p), tellAll(q)) {
			t.Fatalf("P13: %q and its text: %v, %v", s, tellAll(p), tellAll(q))
		}
	}
}

func TestP13FormulasFollowFromThemselves(t *testing.T) {
	seed := uint32(59)
	checked := 0
	for _, s := range several(&seed, 1000) {
		p := load(t, s)
		if p.Verdict() != api.Safe {
			continue
		}
		for node := 0; node < p.Nodes(); node++ {
			for _, f := range p.Invariant(node) {
				got, e := lists.Entails(f, f)
				if e == api.ErrLong || e == api.ErrNames {
					continue
				}
				checked++
				if !got || e != api.OK {
					t.Fatalf("P13: %q, node %d: %q of itself: %v, %d", s, node, f, got, e)
				}
			}
		}
	}
	if checked < 2000 {
		t.Errorf("only %d formulas: the test says little", checked)
	}
}

func TestP13OneCellMore(t *testing.T) {
	seed := uint32(61)
	checked := 0
	for _, s := range several(&seed, 1500) {
		p := load(t, s)
		if p.Verdict() != api.Safe {
			continue
		}
		q, e := lists.Load(strings.Replace(s, "{", " * v->nil {", 1))
		if e != api.OK {
			continue
		}
		checked++
		if q.Verdict() == api.Alarms {
			t.Fatalf("P13: %q is safe, but with one cell more: %v", s, q.Alarms())
		}
	}
	if checked < 100 {
		t.Errorf("only %d programs: the test says little", checked)
	}
}

func TestP13TwiceBehind(t *testing.T) {
	seed := uint32(67)
	checked := 0
	for _, s := range several(&seed, 1500) {
		p := load(t, s)
		open, shut := strings.Index(s, "{"), strings.LastIndex(s, "}")
		q, e := lists.Load(s[:shut] + s[open+1:])
		if e != api.OK || p.Verdict() == api.GaveUp || q.Verdict() == api.GaveUp {
			continue
		}
		for _, a := range p.Alarms() {
			if a.Node == p.Nodes()-1 {
				continue
			}
			checked++
			found := false
			for _, b := range q.Alarms() {
				found = found || a == b
			}
			if !found {
				t.Fatalf("P13: %q: %v is no alarm when it is done twice: %v", s, a, q.Alarms())
			}
		}
	}
	if checked < 300 {
		t.Errorf("only %d alarms: the test says little", checked)
	}
}
