// Package effects tells what a node makes of what is known ahead of it.
package effects

import (
	"lists/classes"
	"lists/syntax"
)

// Outcome is what comes of a formula at a node. Together its formulas hold of
// just those stores and cells that runs go on with, but for one thing: a value
// that was freed may seem to lie inside a list.
type Outcome struct {
	Next     []*classes.Formula // at the node's Next
	Other    []*classes.Formula // at its Other
	Null     bool               // some run follows nil
	Dangling bool               // some run follows what is no cell
	Full     bool               // there were not names enough: formulas are missing
}

// Of does a node's instruction. The formula is tidy, and is not changed; those
// that come out are tidy, too.
func Of(n syntax.Node, f *classes.Formula) *Outcome {
	o := &Outcome{}
	switch n.Op {
	case syntax.End:
	case syntax.Assign:
		o.assign(f, n.Var, class(f, n.Arg))
	case syntax.Follow:
		o.follow(f, n)
	case syntax.Link:
		o.link(f, n)
	case syntax.New:
		o.create(f, n.Var)
	case syntax.Free:
		o.free(f, n.Var)
	case syntax.Either:
		yes := f.Copy()
		o.goOn(yes)
		no := f.Copy()
		o.turn(no)
	case syntax.Same:
		o.compare(f, n)
	case syntax.Differs:
		o.compare(f, n)
		equal := o.Next
		o.Next = o.Other
		o.Other = equal
	default:
		g := f.Copy()
		o.goOn(g)
	}
	return o
}

// class tells the class of nil or of a variable.
func class(f *classes.Formula, t syntax.Term) int {
	if t.Kind == syntax.Var {
		return f.Class[1+t.Index]
	}
	return f.Class[0]
}

func (o *Outcome) goOn(f *classes.Formula) {
	f.Tidy()
	o.Next = append(o.Next, f)
}

func (o *Outcome) turn(f *classes.Formula) {
	f.Tidy()
	o.Other = append(o.Other, f)
}

func (o *Outcome) assign(f *classes.Formula, v int, to int) {
	g := f.Copy()
	g.Class[1+v] = to
	o.goOn(g)
}

func (o *Outcome) follow(f *classes.Formula, n syntax.Node) {
	for _, g := range o.open(f, n.Arg.Index) {
		i := g.Begins(g.Class[1+n.Arg.Index])
		g.Class[1+n.Var] = g.Owners[i].Right
		o.goOn(g)
	}
}

func (o *Outcome) link(f *classes.Formula, n syntax.Node) {
	for _, g := range o.open(f, n.Var) {
		i := g.Begins(g.Class[1+n.Var])
		g.Owners[i].Right = class(g, n.Arg)
		o.goOn(g)
	}
}

// create makes a cell: nothing but the atoms keeps its address apart from other
// values, as it may be one that was a cell's before.
func (o *Outcome) create(f *classes.Formula, v int) {
	fresh := f.Names()
	if fresh >= classes.Most {
		o.Full = true
		return
	}
	g := f.Copy()
	g.Lay(syntax.Points, fresh, g.Class[0])
	g.Class[1+v] = fresh
	o.goOn(g)
}

// free removes a cell. That it was one kept its address apart from nil and from
// the others: this must be said from now on.
func (o *Outcome) free(f *classes.Formula, v int) {
	for _, g := range o.open(f, v) {
		at := g.Class[1+v]
		i := g.Begins(at)
		g.Take(i)
		g.Part(at, g.Class[0])
		for _, p := range g.Owners {
			g.Part(at, p.Left)
		}
		o.goOn(g)
	}
}

// compare goes on where two values are equal, and turns where they are not.
func (o *Outcome) compare(f *classes.Formula, n syntax.Node) {
	a := f.Class[1+n.Var]
	b := class(f, n.Arg)
	if !f.Differ(a, b) {
		g := f.Copy()
		g.Join(a, b)
		o.goOn(g)
	}
	if a != b {
		g := f.Copy()
		g.Part(a, b)
		o.turn(g)
	}
}
