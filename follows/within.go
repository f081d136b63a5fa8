package follows

import (
	"lists/classes"
	"lists/syntax"
)

// shortPatience is that of Within, which is asked very often, mostly of formulas
// that leave no choice where their atoms go.
const shortPatience = 128

// Drawn is a formula that holds somewhere, with what is seen of it at first sight.
type Drawn struct {
	Form   *classes.Formula
	equal  [classes.FirstHidden]int // by nil and variable: the first that is equal
	begins [classes.FirstHidden]int // by nil and variable: the kind of atom that begins there
	points int                      // how many atoms are one cell
	lists  int
}

// Draw looks at a formula, which nobody changes any more.
func Draw(f *classes.Formula) *Drawn {
	d := &Drawn{Form: f}
	for i := 0; i < classes.FirstHidden; i++ {
		for k := i; k >= 0; k-- {
			if f.Class[k] == f.Class[i] {
				d.equal[i] = k
			}
		}
		at := f.Begins(f.Class[i])
		if at >= 0 {
			d.begins[i] = f.Owners[at].Kind
		}
	}
	for _, p := range f.Owners {
		if p.Kind == syntax.Points {
			d.points++
		} else {
			d.lists++
		}
	}
	return d
}

// Within tells whether t is seen at once to hold wherever s does: no list is cut
// up for it.
func (s *Drawn) Within(t *Drawn) bool {
	if !s.hasRoom(t) || !s.looksLike(t) {
		return false
	}
	q := &search{first: s.Form, second: t.Form, steps: shortPatience}
	if !q.drop() {
		return false
	}
	return q.fits(s.Form.Owners)
}

// hasRoom tells whether s has atoms enough for those of t, and no more than t has
// room for.
func (s *Drawn) hasRoom(t *Drawn) bool {
	if t.points > s.points || t.points+t.lists > s.points+s.lists {
		return false
	}
	return t.lists > 0 || s.lists == 0 && s.points == t.points
}

// looksLike tells whether s has what t says of nil and the variables.
func (s *Drawn) looksLike(t *Drawn) bool {
	for i := 0; i < classes.FirstHidden; i++ {
		if s.equal[t.equal[i]] != s.equal[i] {
			return false
		}
		if t.begins[i] == syntax.Points && s.begins[i] != syntax.Points {
			return false
		}
		if t.begins[i] == syntax.List && s.begins[i] == syntax.Emp {
			return false
		}
	}
	return true
}
