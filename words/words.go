// Package words cuts texts into words (P3).
package words

// Split cuts a text into its words; false, if something in it belongs to no word.
func Split(s string) ([]string, bool) {
	var list []string
	at := 0
	for at < len(s) {
		if s[at] == ' ' || s[at] == '\n' {
			at++
			continue
		}
		n := length(s[at:])
		if n == 0 {
			return nil, false
		}
		list = append(list, s[at:at+n])
		at += n
	}
	return list, true
}

// Join lays words in one text, with one blank between. It goes by way of bytes
// so that the answer never holds on to the text that the words were cut from.
func Join(list []string) string {
	var text []byte
	for i := 0; i < len(list); i++ {
		if i > 0 {
			text = append(text, ' ')
		}
		text = append(text, list[i]...)
	}
	return string(text)
}

// IsVariable tells whether a word is a small letter that stands alone.
func IsVariable(w string) bool {
	return len(w) == 1 && isSmall(w[0])
}

// IsHidden tells whether a word is a great letter that stands alone.
func IsHidden(w string) bool {
	return len(w) == 1 && isGreat(w[0])
}

// length tells how long the word is with which s begins: 0, if with none.
func length(s string) int {
	n := letters(s)
	if n > 0 {
		return n
	}
	if len(s) >= 2 && (s[:2] == "->" || s[:2] == "!=") {
		return 2
	}
	if len(s) >= 1 && isSign(s[0]) {
		return 1
	}
	return 0
}

// letters tells with how many letters s begins.
func letters(s string) int {
	n := 0
	for n < len(s) && (isSmall(s[n]) || isGreat(s[n])) {
		n++
	}
	return n
}

func isSmall(c byte) bool { return c >= 'a' && c <= 'z' }

func isGreat(c byte) bool { return c >= 'A' && c <= 'Z' }

func isSign(c byte) bool {
	switch c {
	case '=', '*', '(', ')', ',', ';', '{', '}', '.':
		return true
	}
	return false
}
