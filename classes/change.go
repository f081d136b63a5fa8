package classes

import "lists/syntax"

// Copy answers a formula that says the same and shares no memory.
func (f *Formula) Copy() *Formula {
	apart := append([]Pair{}, f.Apart...)
	owners := append([]Pair{}, f.Owners...)
	return &Formula{Class: f.Class, Apart: apart, Owners: owners}
}

// Names tells how many numbers are in use for classes: the next one is free, if
// it is below Most.
func (f *Formula) Names() int {
	most := 0
	for _, c := range f.Class {
		most = greater(most, c)
	}
	for _, p := range f.Owners {
		most = greater(most, p.Left)
		most = greater(most, p.Right)
	}
	for _, p := range f.Apart {
		most = greater(most, p.Left)
		most = greater(most, p.Right)
	}
	return most + 1
}

func greater(a int, b int) int {
	if a > b {
		return a
	}
	return b
}

// Join makes two classes one.
func (f *Formula) Join(kept int, gone int) {
	for i := 0; i < FirstHidden; i++ {
		if f.Class[i] == gone {
			f.Class[i] = kept
		}
	}
	rename(f.Apart, kept, gone)
	rename(f.Owners, kept, gone)
}

func rename(list []Pair, kept int, gone int) {
	for i := 0; i < len(list); i++ {
		if list[i].Left == gone {
			list[i].Left = kept
		}
		if list[i].Right == gone {
			list[i].Right = kept
		}
	}
}

// Part says that two classes are not equal.
func (f *Formula) Part(a int, b int) {
	f.Apart = append(f.Apart, Pair{Kind: syntax.Unequal, Left: a, Right: b})
}

// Lay adds an atom with cells.
func (f *Formula) Lay(kind int, left int, right int) {
	f.Owners = append(f.Owners, Pair{Kind: kind, Left: left, Right: right})
}

// Take removes the i-th atom with cells.
func (f *Formula) Take(i int) {
	rest := []Pair{}
	for k := 0; k < len(f.Owners); k++ {
		if k != i {
			rest = append(rest, f.Owners[k])
		}
	}
	f.Owners = rest
}

// Named tells whether nil or a variable is of a class.
func (f *Formula) Named(class int) bool {
	for _, c := range f.Class {
		if c == class {
			return true
		}
	}
	return false
}

// Reached tells which classes can be reached from a variable.
func (f *Formula) Reached() [Most]bool {
	var reached [Most]bool
	for i := 1; i < FirstHidden; i++ {
		reached[f.Class[i]] = true
	}
	for grown := true; grown; {
		grown = false
		for _, p := range f.Owners {
			if reached[p.Left] && !reached[p.Right] {
				reached[p.Right] = true
				grown = true
			}
		}
	}
	return reached
}

// Fold lays atoms end to end where nothing but the first of them tells of the
// class between them: what is known of that class is given up.
func (f *Formula) Fold() {
	for k := f.seam(); k >= 0; k = f.seam() {
		middle := f.Owners[k].Left
		end := f.Owners[k].Right
		for i := 0; i < len(f.Owners); i++ {
			if f.Owners[i].Right == middle {
				f.Owners[i].Kind = syntax.List
				f.Owners[i].Right = end
			}
		}
		f.Take(k)
	}
}

// seam answers an atom that can be laid behind another: -1, if there is none.
func (f *Formula) seam() int {
	for k := 0; k < len(f.Owners); k++ {
		middle := f.Owners[k].Left
		if f.Named(middle) || f.Owners[k].Right == middle {
			continue
		}
		if f.ends(middle) == 1 {
			return k
		}
	}
	return -1
}

// ends tells how many atoms end in a class.
func (f *Formula) ends(class int) int {
	count := 0
	for _, p := range f.Owners {
		if p.Right == class {
			count++
		}
	}
	return count
}
