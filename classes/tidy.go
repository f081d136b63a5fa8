package classes

// Tidy writes a formula that holds somewhere in one way: without what says
// nothing, and with classes and atoms in an order that hangs on the variables
// and cells alone, as far as cells can be reached from variables.
func (f *Formula) Tidy() {
	f.forget()
	f.renumber()
	f.order()
}

// forget drops each `!=` that says nothing: the cells keep the two apart anyway,
// or one of them is nothing's value, so that it may well be like nothing else.
func (f *Formula) forget() {
	var live [Most]bool
	for _, c := range f.Class {
		live[c] = true
	}
	for _, p := range f.Owners {
		live[p.Left] = true
		live[p.Right] = true
	}
	kept := []Pair{}
	for _, p := range f.Apart {
		if live[p.Left] && live[p.Right] && !f.clear(p.Left, p.Right) {
			kept = append(kept, p)
		}
	}
	f.Apart = kept
}

// numbers deals out new numbers to classes, as they are met.
type numbers struct {
	old   [Most]int // by new number
	fresh [Most]int // by old number: the new one, and one more; 0, if there is none yet
	count int
}

func (n *numbers) meet(class int) {
	if n.fresh[class] > 0 {
		return
	}
	n.old[n.count] = class
	n.count++
	n.fresh[class] = n.count
}

// renumber numbers the classes: nil and the variables' first, then those that
// are reached from them, then those that are not.
func (f *Formula) renumber() {
	n := &numbers{}
	for _, c := range f.Class {
		n.meet(c)
	}
	f.spread(n, 0)
	for _, p := range f.Owners {
		from := n.count
		n.meet(p.Left)
		f.spread(n, from)
	}
	for i := 0; i < FirstHidden; i++ {
		f.Class[i] = n.fresh[f.Class[i]] - 1
	}
	n.apply(f.Owners)
	n.apply(f.Apart)
}

// spread meets what can be reached from the classes that were met, from one of
// them on.
func (f *Formula) spread(n *numbers, from int) {
	for k := from; k < n.count; k++ {
		i := f.Begins(n.old[k])
		if i >= 0 {
			n.meet(f.Owners[i].Right)
		}
	}
}

func (n *numbers) apply(list []Pair) {
	for i := 0; i < len(list); i++ {
		list[i].Left = n.fresh[list[i].Left] - 1
		list[i].Right = n.fresh[list[i].Right] - 1
	}
}

// order sorts the atoms, and drops each `!=` that is said twice.
func (f *Formula) order() {
	f.Owners = sorted(f.Owners)
	for i := 0; i < len(f.Apart); i++ {
		p := f.Apart[i]
		if p.Left > p.Right {
			f.Apart[i].Left = p.Right
			f.Apart[i].Right = p.Left
		}
	}
	f.Apart = sorted(f.Apart)
}

// sorted answers the pairs by Left, then by Right, each once.
func sorted(list []Pair) []Pair {
	result := []Pair{}
	for _, p := range list {
		result = append(result, p)
		k := len(result) - 1
		for k > 0 && p.before(result[k-1]) {
			result[k] = result[k-1]
			k--
		}
		result[k] = p
	}
	kept := 0
	for i := 0; i < len(result); i++ {
		if i == 0 || result[i] != result[kept-1] {
			result[kept] = result[i]
			kept++
		}
	}
	return result[:kept]
}

func (p Pair) before(q Pair) bool {
	return p.Left < q.Left || p.Left == q.Left && p.Right < q.Right
}

// Same tells whether two tidy formulas are written alike.
func (f *Formula) Same(g *Formula) bool {
	return f.Class == g.Class && alike(f.Apart, g.Apart) && alike(f.Owners, g.Owners)
}

func alike(a []Pair, b []Pair) bool {
	if len(a) != len(b) {
		return false
	}
	for i := 0; i < len(a); i++ {
		if a[i] != b[i] {
			return false
		}
	}
	return true
}
