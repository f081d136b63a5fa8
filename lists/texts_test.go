package lists_test

import (
	"strings"
	"testing"

	"lists/api"
	"lists/lists"
)

func load(t *testing.T, s string) *lists.Program {
	t.Helper()
	p, e := lists.Load(s)
	if e != api.OK || p == nil {
		t.Fatalf("P3: Load(%q) = %v, %d", s, p, e)
	}
	return p
}

// refused: each of these texts has that error, and no program beside it (P1).
func refused(t *testing.T, want api.Errno, texts []string) {
	t.Helper()
	for _, s := range texts {
		p, e := lists.Load(s)
		if e != want || p != nil {
			t.Errorf("P3: Load(%q) = %v, %d, want %d", s, p, e, want)
		}
	}
}

func TestP3Long(t *testing.T) {
	body := "pre emp { }"
	load(t, body+strings.Repeat("\n", api.MaxText-len(body)))
	refused(t, api.ErrLong, []string{
		body + strings.Repeat(" ", api.MaxText-len(body)+1),
		strings.Repeat("\t", 241),
		strings.Repeat("pre emp { } ", 100000),
		strings.Repeat("{", 1<<20),
	})
}

func TestP3Lex(t *testing.T) {
	refused(t, api.ErrLex, []string{
		"\t", "pre\temp { }", "pre emp { }\r", "pre emp { }\x00", "pre x -> 1 { }", "pre x - y { }", "pre x ! y { }", "pre x > y { }",
		"pre x <- y { }", "pre x - > y { }", "pre x ! = y { }", "pre emp { x := nil; }", "pre emp { x.n = \"y\"; }", "# pre emp { }", "pre \u00e4 = nil { }",
		"pre emp { x = y; } // free", "}} -", "a = b = c = d = e %",
	})
}

func TestP3SyntaxOfFormulas(t *testing.T) {
	for _, f := range []string{"emp", "emp*emp", "nil=nil", "nil!=A", "nil->nil", "x->A*A->y", "ls(nil,nil)", "ls(A,B)*ls(B,A)", "n=N", "x=y*emp*x!=y*x->y*ls(x,y)"} {
		load(t, "pre "+f+" { }")
	}
	texts := []string{}
	for _, f := range []string{
		"", "*", "* emp", "emp *", "emp emp", "emp , emp", "x", "x =", "= x", "x -> ", "-> x", "x -> y -> z", "x = y = z", "x = emp", "(emp)", "( x = y )",
		"ls", "ls x , y", "ls()", "ls(x)", "ls(x,)", "ls(,x)", "ls(x,y", "ls(x y)", "ls(x,y,z)", "ls(x,emp)", "LS(x,y)", "lsx(x,y)", "xx = y", "AB = y", "x = new", "x = y.n", "x.n = y", "pre emp", "NIL = x", "true", "x = y ; emp",
	} {
		texts = append(texts, "pre "+f+" { }")
	}
	refused(t, api.ErrSyntax, texts)
}

func TestP3SyntaxOfCommands(t *testing.T) {
	for _, c := range []string{
		"", "x=nil;", "x=y;", "x=y.n;", "x=x.n;", "x.n=y;", "x.n=nil;", "x=new;", "free x;", "skip;", "n=n.n;", "n.n=n;", "x . n = y ;", "free n;",
		"if(*){}", "if(x=y){}", "if(x!=y){}", "if(x=nil){}", "if(x!=nil){}", "while(*){}", "while(x=x){skip;}", "if(*){}else{}", "if(*){if(*){}else{}}else{while(*){}}", "if(*){}if(*){}",
	} {
		load(t, "pre emp {"+c+"}")
	}
	texts := []string{}
	for _, c := range []string{
		";", "skip", "skip;;", "x;", "x=;", "=x;", "x=y", "x=y.m;", "x=y.N;", "x=y.nn;", "x=y.;", "x=.n;", "x=y.n.n;", "x.n=y.n;", "x.n=new;", "x.n.n=y;", "x.n;", "x.m=y;", "x.=y;",
		"nil=x;", "nil.n=x;", "x=nil.n;", "x=new.n;", "new=x;", "new;", "free;", "free nil;", "free X;", "free x.n;", "free x y;", "free new;", "X=nil;", "x=X;", "x=X.n;", "x.n=X;", "X.n=x;", "xy=nil;", "x=yz;", "x=emp;", "x->y;", "x!=y;", "x=y*z;", "Skip;", "skip x;", "emp;", "pre;",
		"{}", "{skip;}", "if{}", "if(){}", "if(x){}", "if(nil){}", "if(nil=x){}", "if(x=X){}", "if(X=x){}", "if(x->y){}", "if(x=y.n){}", "if(x.n=y){}", "if(x=new){}", "if(**){}", "if(x=y*x=y){}", "if *{}", "if(*){", "if(*)}", "if(*)skip;", "if(*);", "if(*){};", "if(*){}else", "if(*){}else skip;", "if(*){}else if(*){}", "if(*){}else{}else{}", "else{}",
		"while{}", "while(){}", "while(*)", "while(*)skip;", "while(*){}else{}", "while(x){}", "while(nil!=x){}", "while(*){", "}", "} {",
	} {
		texts = append(texts, "pre emp {"+c+"}")
	}
	refused(t, api.ErrSyntax, texts)
}

func TestP3SyntaxOfPrograms(t *testing.T) {
	refused(t, api.ErrSyntax, []string{
		"", " ", "\n", "pre", "emp { }", "pre emp", "pre emp {", "pre emp }", "{ }", "pre { }", "pre emp { } }", "pre emp { } { }", "pre emp { } skip;", "pre emp { } pre emp { }",
		"preemp { }", "Pre emp { }", "pre pre emp { }", "skip;", "pre emp ( )", "pre emp { } emp", "} pre emp {", "pre emp { }.", strings.Repeat("{", 240), "pre emp " + strings.Repeat("{", 200),
	})
}

func TestP3Names(t *testing.T) {
	load(t, "pre a = b * c = d { }")
	load(t, "pre a = b { c = d; a = d; a.n = b; }")
	load(t, "pre A=B*C=D*E=F*G=H*H=A { a = b; c = d; }")
	refused(t, api.ErrNames, []string{
		"pre a = b * c = d * e = a { }",
		"pre a = b { c = d; free e; }",
		"pre emp { a = b; c = d; a = n; }",
		"pre emp { if (a = b) { while (c != d) { } } else { e = new; } }",
		"pre A=B*C=D*E=F*G=H*I=A { }",
		"pre a=A*b=B*c=C*d=D*e=E { }",
		"pre A=B*C=D*E=F*G=H*I=J*a=b*c=d*e=f { }",
	})
	// A fault of the syntax is named ahead of too many names, wherever it stands.
	refused(t, api.ErrSyntax, []string{"pre a=b*c=d*e=f { x }", "pre A=B*C=D*E=F*G=H*I=J { A = B; }"})
}

// The field is no variable.
func TestP3FieldIsNoVariable(t *testing.T) {
	p := load(t, "pre a = b * c = d { a = b.n; c.n = d; }")
	if p.Vars() != 4 {
		t.Errorf("P3: %d variables", p.Vars())
	}
	p = load(t, "pre emp { x = y . n; }")
	if p.Vars() != 2 {
		t.Errorf("P3: %d variables", p.Vars())
	}
	p = load(t, "pre n -> nil { n = n.n; }")
	if p.Vars() != 1 {
		t.Errorf("P3: %d variables", p.Vars())
	}
}

func TestP4Text(t *testing.T) {
	for _, c := range [][2]string{
		{"pre emp{}", "pre emp { }"},
		{"\n pre\n\nemp  {\n}\n", "pre emp { }"},
		{"pre x->A*A!=nil*ls(A,x)*x=x{x=x.n;free x;}", "pre x -> A * A != nil * ls ( A , x ) * x = x { x = x . n ; free x ; }"},
		{"pre emp{if(*){x.n=nil;}else{while(x!=y){skip;}}}", "pre emp { if ( * ) { x . n = nil ; } else { while ( x != y ) { skip ; } } }"},
	} {
		p := load(t, c[0])
		if p.Text() != c[1] {
			t.Errorf("P4: Text of %q is %q", c[0], p.Text())
		}
		again := load(t, p.Text())
		if again.Text() != p.Text() || again.Vars() != p.Vars() || again.Nodes() != p.Nodes() {
			t.Errorf("P4: Load of the text of %q is another program", c[0])
		}
	}
}

// Text may be longer than what Load takes.
func TestP4LongText(t *testing.T) {
	s := "pre emp{" + strings.Repeat("x=y.n;", 38) + "}"
	p := load(t, s)
	want := "pre emp {" + strings.Repeat(" x = y . n ;", 38) + " }"
	if p.Text() != want || p.Nodes() != 39 {
		t.Errorf("P4: Text %q, %d nodes", p.Text(), p.Nodes())
	}
	refused(t, api.ErrLong, []string{p.Text()})
}

func TestP4Nodes(t *testing.T) {
	for _, c := range []struct {
		s     string
		nodes int
	}{
		{"", 1}, {"skip;", 2}, {"skip; skip;", 3},
		{"if (*) { }", 2}, {"if (*) { skip; }", 3}, {"if (*) { } else { }", 3}, {"if (*) { skip; } else { skip; skip; }", 6},
		{"while (*) { }", 3}, {"while (*) { skip; }", 4}, {"while (*) { if (*) { skip; } else { } }", 6}, {"while (*) { while (*) { } } skip;", 6},
		{strings.Repeat("if(*){", 32) + strings.Repeat("}", 32), 33},
		{strings.Repeat("while(*){", 22) + strings.Repeat("}", 22), 45},
	} {
		p := load(t, "pre emp {"+c.s+"}")
		if p.Nodes() != c.nodes {
			t.Errorf("P4: %q has %d nodes, want %d", c.s, p.Nodes(), c.nodes)
		}
	}
}

// The rows of the table of programs: its errors, and that all others are read.
func TestP3Table(t *testing.T) {
	refused(t, api.ErrSyntax, []string{"pre emp { x = X; }", "pre emp { free nil; }", "pre emp { x.m = y; }", "pre emp { x = y }", "pre { }", "emp { }"})
	refused(t, api.ErrLex, []string{"pre x -> 1 { }"})
	refused(t, api.ErrNames, []string{"pre emp { a = b; c = d; e = a; }"})
	for _, s := range []string{
		"pre ls(x,nil) { y = nil; while (x != nil) { z = x.n; x.n = y; y = x; x = z; } }",
		"pre ls(x,nil) * ls(y,nil) { z = x; w = x.n; while (w != nil) { z = w; w = w.n; } z.n = y; }",
		"pre x -> A * y -> A * ls(A,nil) { z = x.n; while (z != nil) { z = z.n; } }",
		"pre emp { while (x = x) { skip; } }",
		"pre w = w * ls(x,y) { if (y = w) { while (x != w) { z = x.n; free x; x = z; } } else { while (x != y) { z = x.n; free x; x = z; } } }",
		"pre x -> A * A -> B * B -> C * C -> D * D -> E * ls(E,F) * F -> nil { skip; }",
		"pre x != y * z -> A * A -> B * B -> C * C -> D * D -> nil { w = new; free w; if (x = y) { y = nil; y.n = y; } }",
	} {
		load(t, s)
	}
}
