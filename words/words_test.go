package words

import (
	"reflect"
	"strings"
	"testing"
)

func TestSplitCutsWords(t *testing.T) {
	for _, c := range []struct {
		s    string
		want string
	}{
		{"", ""},
		{" \n \n", ""},
		{"pre", "pre"},
		{"prex y", "prex|y"},
		{"x->y", "x|->|y"},
		{"x!=y=z", "x|!=|y|=|z"},
		{"==", "=|="},
		{"ls(A,nil)*emp", "ls|(|A|,|nil|)|*|emp"},
		{"{x.n=y;}", "{|x|.|n|=|y|;|}"},
		{"aZzA", "aZzA"},
		{"\nx\n.\nn ", "x|.|n"},
		{"->->!=", "->|->|!="},
	} {
		list, ok := Split(c.s)
		if !ok || strings.Join(list, "|") != c.want {
			t.Errorf("Split(%q) = %q, %v, want %q", c.s, list, ok, c.want)
		}
	}
}

// Every byte alone is a word, a gap, or nothing of the kind.
func TestSplitOfEveryByte(t *testing.T) {
	signs := "=*(),;{}."
	for b := 0; b < 256; b++ {
		s := string([]byte{byte(b)})
		letter := b >= 'a' && b <= 'z' || b >= 'A' && b <= 'Z'
		gap := b == 32 || b == 10
		want := letter || gap || strings.Contains(signs, s)
		list, ok := Split(s)
		if ok != want || !ok && list != nil {
			t.Errorf("Split(%q) = %q, %v", s, list, ok)
		}
		if ok && gap == (len(list) == 1) {
			t.Errorf("Split(%q) = %q", s, list)
		}
	}
}

func TestSplitRefusesHalfSigns(t *testing.T) {
	for _, s := range []string{"-", "!", ">", "- >", "! =", "x-", "x!", "a-=b", "a!->b", "x\ty", "x\r\n", "1", "x_y", "x -> y \x00", "\u00e4"} {
		list, ok := Split(s)
		if ok || list != nil {
			t.Errorf("Split(%q) = %q, %v", s, list, ok)
		}
	}
}

func TestJoin(t *testing.T) {
	for _, c := range []struct {
		list []string
		want string
	}{{nil, ""}, {[]string{"pre"}, "pre"}, {[]string{"x", "->", "y"}, "x -> y"}} {
		before := append([]string{}, c.list...)
		if s := Join(c.list); s != c.want || len(before) > 0 && !reflect.DeepEqual(before, c.list) {
			t.Errorf("Join(%q) = %q", c.list, s)
		}
	}
}

func TestKindsOfLetters(t *testing.T) {
	for _, w := range []string{"a", "n", "z"} {
		if !IsVariable(w) || IsHidden(w) {
			t.Errorf("%q is a variable", w)
		}
	}
	for _, w := range []string{"A", "N", "Z"} {
		if IsVariable(w) || !IsHidden(w) {
			t.Errorf("%q is a hidden name", w)
		}
	}
	for _, w := range []string{"", "xx", "XX", "nil", "*", "->"} {
		if IsVariable(w) || IsHidden(w) {
			t.Errorf("%q is neither", w)
		}
	}
}
