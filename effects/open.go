package effects

import (
	"lists/classes"
	"lists/syntax"
)

// open answers formulas for those cases in which a variable's value is a cell's
// address, with an atom of that cell alone; and notes what goes wrong in the others.
func (o *Outcome) open(f *classes.Formula, v int) []*classes.Formula {
	at := f.Class[1+v]
	null := f.Class[0]
	if at == null {
		o.Null = true
		return nil
	}
	if f.Begins(at) >= 0 {
		return o.first(nil, f.Copy(), at)
	}
	o.Dangling = true
	if !f.Differ(at, null) {
		o.Null = true
	}
	list := []*classes.Formula{}
	for i := 0; i < len(f.Owners); i++ {
		for _, g := range Meet(f, at, i) {
			list = o.first(list, g, g.Class[1+v])
		}
	}
	return list
}

// Meet answers formulas for those cases in which the value of a class that
// begins no atom is all the same the address of one of the i-th atom's cells.
func Meet(f *classes.Formula, at int, i int) []*classes.Formula {
	list := []*classes.Formula{}
	p := f.Owners[i]
	if !f.Differ(at, p.Left) {
		g := f.Copy()
		g.Join(p.Left, at)
		list = append(list, g)
	}
	if p.Kind == syntax.List {
		g := f.Copy()
		g.Owners[i].Right = at
		g.Lay(syntax.List, at, p.Right)
		list = append(list, g)
	}
	return list
}

// first adds formulas in which the atom that begins at a class is one cell: a
// list has one, or more.
func (o *Outcome) first(list []*classes.Formula, f *classes.Formula, at int) []*classes.Formula {
	i := f.Begins(at)
	p := f.Owners[i]
	if p.Kind == syntax.Points {
		return append(list, f)
	}
	one := f.Copy()
	one.Owners[i].Kind = syntax.Points
	list = append(list, one)
	fresh := f.Names()
	if fresh >= classes.Most {
		o.Full = true
		return list
	}
	more := f.Copy()
	more.Owners[i] = classes.Pair{Kind: syntax.Points, Left: at, Right: fresh}
	more.Lay(syntax.List, fresh, p.Right)
	return append(list, more)
}
