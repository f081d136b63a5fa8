package classes

import "lists/syntax"

// great has a hidden name for each class that may need one.
const great = "ABCDEFGHIJKLMNOPQRSTUVWXYZ"

// Write tells a tidy formula as a text, with the variables' letters.
func (f *Formula) Write(letters []byte) string {
	names := f.names(letters)
	text := ""
	for i := 0; i < len(letters) && 1+i < FirstHidden; i++ {
		letter := string(letters[i : i+1])
		name := names[f.Class[1+i]]
		if name != letter {
			text = with(text, letter+" = "+name)
		}
	}
	for _, p := range f.Apart {
		text = with(text, unequal(names[p.Left], names[p.Right]))
	}
	for _, p := range f.Owners {
		if p.Kind == syntax.List {
			text = with(text, "ls("+names[p.Left]+","+names[p.Right]+")")
		} else {
			text = with(text, names[p.Left]+" -> "+names[p.Right])
		}
	}
	if text == "" {
		return "emp"
	}
	return text
}

// unequal writes `!=` with nil last, as one would say it.
func unequal(a string, b string) string {
	if a == "nil" {
		return b + " != " + a
	}
	return a + " != " + b
}

// with lays an atom behind a text of others.
func with(text string, atom string) string {
	if text == "" {
		return atom
	}
	return text + " * " + atom
}

// names tells what each class is called: nil, or by its first variable, or by a
// hidden name.
func (f *Formula) names(letters []byte) [Most]string {
	var names [Most]string
	for i := len(letters) - 1; i >= 0; i-- {
		if 1+i < FirstHidden {
			names[f.Class[1+i]] = string(letters[i : i+1])
		}
	}
	names[f.Class[0]] = "nil"
	hidden := 0
	for c := 0; c < Most; c++ {
		if names[c] == "" {
			names[c] = great[hidden : hidden+1]
			hidden++
		}
	}
	return names
}
