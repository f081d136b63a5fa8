// Package rules: the program keeps to its small part of Go, and package api lies as it was given.
package rules

import (
	"bytes"
	"crypto/sha256"
	"fmt"
	"go/ast"
	"go/format"
	"go/parser"
	"go/token"
	"io/fs"
	"os"
	"path/filepath"
	"strconv"
	"strings"
	"testing"
)

const root = ".."

// sources: the Go files of the program, without its tests.
func sources(t *testing.T) []string {
	t.Helper()
	list := []string{}
	e := filepath.WalkDir(root, func(path string, d fs.DirEntry, e error) error {
		if e != nil {
			return e
		}
		name := d.Name()
		if d.IsDir() && path != root && (strings.HasPrefix(name, ".") || name == "sharedtests") {
			return filepath.SkipDir
		}
		if !d.IsDir() && strings.HasSuffix(name, ".go") && !strings.HasSuffix(name, "_test.go") {
			list = append(list, path)
		}
		return nil
	})
	if e != nil || len(list) < 7 {
		t.Fatalf("sources: %v, %v", list, e)
	}
	return list
}

func TestLanguage(t *testing.T) {
	for _, path := range sources(t) {
		text, e := os.ReadFile(path)
		if e != nil {
			t.Fatal(e)
		}
		for _, fault := range faults(path, text) {
			t.Error(fault)
		}
	}
}

// The test itself must see what it looks for.
func TestFaultsAreSeen(t *testing.T) {
	for _, s := range []string{
		"import \"os\"", "var x int", "var x = []int{1}", "func f() { go f() }", "func f() { defer f() }", "func f(c chan int) { c <- 1 }",
		"func f() { panic(1) }", "func f(l []int) int { return cap(l) }", "type m map[int]int", "type i interface{}", "func f(x any) {}", "func f() error { return nil }",
		"func f() { g := func() {}; g() }", "func f(g func()) {}", "func f[T int](x T) {}", "const x = 1.5", "type x float64", "func f(l []int) { l[0], l[1] = 1, 2 }", "//go:noinline\nfunc f() {}",
		"func f() {\n" + strings.Repeat("\tf()\n", 41) + "}", "func  f() {}",
	} {
		if len(faults("x.go", []byte("package x\n\n"+s+"\n"))) == 0 {
			t.Errorf("no fault is seen in %q", s)
		}
	}
	clean := "package x\n\nimport \"strconv\"\n\nvar table = [2]int{1, 2}\n\ntype s struct{ l []int }\n\nfunc (x *s) f() (int, bool) {\n\ta, b := 1, true\n\treturn a + len(strconv.Itoa(table[0])), b\n}\n"
	if list := faults("x.go", []byte(clean)); len(list) != 0 {
		t.Errorf("faults are seen where there are none: %v", list)
	}
}

// faults tells what in a file is outside the language.
func faults(path string, text []byte) []string {
	set := token.NewFileSet()
	file, e := parser.ParseFile(set, path, text, parser.ParseComments)
	if e != nil {
		return []string{e.Error()}
	}
	list := []string{}
	say := func(n ast.Node, what string) {
		list = append(list, fmt.Sprintf("%s: %s", set.Position(n.Pos()), what))
	}
	if neat, e := format.Source(text); e != nil || !bytes.Equal(neat, text) {
		say(file, "not gofmt's layout")
	}
	for _, i := range file.Imports {
		p, _ := strconv.Unquote(i.Path.Value)
		if p != "strconv" && !strings.HasPrefix(p, "lists/") {
			say(i, "import of "+p)
		}
	}
	for _, g := range file.Comments {
		for _, c := range g.List {
			if strings.HasPrefix(c.Text, "//go:") {
				say(c, "//go: line")
			}
		}
	}
	declared := map[*ast.FuncType]bool{}
	for _, d := range file.Decls {
		if f, ok := d.(*ast.FuncDecl); ok {
			declared[f.Type] = true
			lines := set.Position(f.End()).Line - set.Position(f.Pos()).Line + 1
			if lines > 42 {
				say(f, "a long function")
			}
			if f.Type.TypeParams != nil {
				say(f, "generics")
			}
		}
		if g, ok := d.(*ast.GenDecl); ok && g.Tok == token.VAR {
			for _, s := range g.Specs {
				if !isTable(s.(*ast.ValueSpec)) {
					say(s, "a package-level variable that is no table")
				}
			}
		}
	}
	ast.Inspect(file, func(n ast.Node) bool {
		if what := outside(n, declared); what != "" {
			say(n, what)
		}
		return true
	})
	return list
}

// isTable: whether a variable is an array that is written out.
func isTable(s *ast.ValueSpec) bool {
	if len(s.Values) != 1 {
		return false
	}
	c, ok := s.Values[0].(*ast.CompositeLit)
	if !ok {
		return false
	}
	a, ok := c.Type.(*ast.ArrayType)
	return ok && a.Len != nil
}

// outside tells what is wrong with a node by itself.
func outside(n ast.Node, declared map[*ast.FuncType]bool) string {
	switch x := n.(type) {
	case *ast.GoStmt, *ast.SelectStmt, *ast.SendStmt, *ast.ChanType:
		return "goroutines or channels"
	case *ast.DeferStmt:
		return "defer"
	case *ast.MapType:
		return "a map"
	case *ast.InterfaceType:
		return "an interface"
	case *ast.FuncLit:
		return "a closure"
	case *ast.FuncType:
		if !declared[x] {
			return "a function value"
		}
	case *ast.BasicLit:
		if x.Kind == token.FLOAT || x.Kind == token.IMAG {
			return "a float"
		}
	case *ast.Ident:
		switch x.Name {
		case "panic", "recover", "cap", "any", "error", "float32", "float64", "complex64", "complex128", "print", "println":
			return x.Name
		}
	case *ast.AssignStmt:
		for _, l := range x.Lhs {
			if _, plain := l.(*ast.Ident); !plain && len(x.Lhs) > 1 {
				return "several targets that are not plain variables"
			}
		}
	}
	return ""
}

func TestAPILiesAsGiven(t *testing.T) {
	entries, e := os.ReadDir(filepath.Join(root, "api"))
	if e != nil || len(entries) != 1 || entries[0].Name() != "api.go" {
		t.Fatalf("api: %v, %v", entries, e)
	}
	text, e := os.ReadFile(filepath.Join(root, "api", "api.go"))
	if e != nil {
		t.Fatal(e)
	}
	if sum := fmt.Sprintf("%x", sha256.Sum256(text)); sum != "48f50f144d90e5314951504948355a04fdb183e6d32a506a7367d9809e92779f" {
		t.Errorf("api.go is not what was given: %s", sum)
	}
}
