package syntax

// add lays a node behind the others and answers its number.
func (p *parser) add(n Node) int {
	i := len(p.nodes)
	n.Next = i + 1
	p.nodes = append(p.nodes, n)
	return i
}

func (p *parser) block() {
	p.expect("{")
	for !p.failed && p.peek() != "}" {
		p.command()
	}
	p.expect("}")
}

func (p *parser) command() {
	switch p.peek() {
	case "if":
		p.branch()
	case "while":
		p.loop()
	default:
		n := p.simple()
		p.expect(";")
		p.add(n)
	}
}

func (p *parser) branch() {
	p.expect("if")
	test := p.test()
	p.block()
	if !p.accept("else") {
		p.nodes[test].Other = len(p.nodes)
		return
	}
	jump := p.add(Node{Op: Jump})
	p.nodes[test].Other = len(p.nodes)
	p.block()
	p.nodes[jump].Next = len(p.nodes)
}

func (p *parser) loop() {
	p.expect("while")
	test := p.test()
	p.block()
	back := p.add(Node{Op: Jump})
	p.nodes[back].Next = test
	p.nodes[test].Other = len(p.nodes)
}

// test takes a test with its brackets, and answers the number of its node.
func (p *parser) test() int {
	p.expect("(")
	n := p.condition()
	p.expect(")")
	return p.add(n)
}

func (p *parser) condition() Node {
	if p.accept("*") {
		return Node{Op: Either}
	}
	v := p.variable()
	op := Same
	if p.accept("!=") {
		op = Differs
	} else {
		p.expect("=")
	}
	arg := p.value()
	return Node{Op: op, Var: v, Arg: arg}
}

// simple takes a command without a block, up to its semicolon.
func (p *parser) simple() Node {
	if p.accept("skip") {
		return Node{Op: Skip}
	}
	if p.accept("free") {
		v := p.variable()
		return Node{Op: Free, Var: v}
	}
	v := p.variable()
	if p.accept(".") {
		p.expect("n")
		p.expect("=")
		arg := p.value()
		return Node{Op: Link, Var: v, Arg: arg}
	}
	p.expect("=")
	return p.assignment(v)
}

// assignment takes what stands behind `v =`.
func (p *parser) assignment(v int) Node {
	if p.accept("new") {
		return Node{Op: New, Var: v}
	}
	arg := p.value()
	if arg.Kind == Var && p.accept(".") {
		p.expect("n")
		return Node{Op: Follow, Var: v, Arg: arg}
	}
	return Node{Op: Assign, Var: v, Arg: arg}
}
