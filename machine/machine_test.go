package machine

import (
	"reflect"
	"sort"
	"testing"

	"lists/api"
	"lists/syntax"
)

// next is a small generator of numbers, so that the tests are always the same.
func next(seed *uint32, below int) int {
	*seed = *seed*1664525 + 1013904223
	return int(*seed>>8) % below
}

// tree is a command with its blocks, as the document has it; the tests run it
// by its blocks, without nodes that go elsewhere.
type tree struct {
	kind  string // "if", "else" (an if that has one), "while", or the command
	v, w  string // variables, or nil
	first []*tree
	other []*tree
}

func (c *tree) text() string {
	test := c.v + " = " + c.w
	if c.v == "*" {
		test = "*"
	}
	switch c.kind {
	case "if":
		return "if (" + test + ") {" + texts(c.first) + "}"
	case "else":
		return "if (" + test + ") {" + texts(c.first) + "} else {" + texts(c.other) + "}"
	case "while":
		return "while (" + test + ") {" + texts(c.first) + "}"
	case "assign":
		return c.v + " = " + c.w + ";"
	case "follow":
		return c.v + " = " + c.w + ".n;"
	case "link":
		return c.v + ".n = " + c.w + ";"
	case "new":
		return c.v + " = new;"
	case "free":
		return "free " + c.v + ";"
	}
	return "skip;"
}

func texts(list []*tree) string {
	s := ""
	for _, c := range list {
		s += c.text()
	}
	return s
}

func grow(seed *uint32, depth int) []*tree {
	kinds := []string{"assign", "follow", "link", "new", "free", "skip", "new", "if", "else", "while"}
	vars := []string{"x", "y", "nil"}
	list := []*tree{}
	count := 1 + next(seed, 4)
	for i := 0; i < count; i++ {
		c := &tree{kind: kinds[next(seed, len(kinds)-3)], v: vars[next(seed, 2)], w: vars[next(seed, 3)]}
		if depth > 0 && next(seed, 2) == 0 {
			c.kind = kinds[7+next(seed, 3)]
			c.first = grow(seed, depth-1)
			c.other = grow(seed, depth-1)
			if next(seed, 2) == 0 {
				c.v = "*"
			}
		}
		if c.kind == "follow" && c.w == "nil" {
			c.w = "y"
		}
		list = append(list, c)
	}
	return list
}

// size tells how many nodes P4 gives a list of commands.
func size(list []*tree) int {
	n := 0
	for _, c := range list {
		n++
		switch c.kind {
		case "if":
			n += size(c.first)
		case "else":
			n += size(c.first) + 1 + size(c.other)
		case "while":
			n += size(c.first) + 1
		}
	}
	return n
}

// model runs trees, and tells the state ahead of each step.
type model struct {
	store   map[string]int
	heap    map[int]int
	choices []int
	states  []api.State
	what    int
}

// tell notes the state at a node; false, if the run has ended or is long enough.
func (m *model) tell(node int) bool {
	if m.what != api.Going || len(m.states) > len(m.choices) {
		return false
	}
	m.note(node)
	return len(m.states) <= len(m.choices)
}

func (m *model) note(node int) {
	addrs := []int{}
	for a := range m.heap {
		addrs = append(addrs, a)
	}
	sort.Ints(addrs)
	cells := []int{}
	for _, a := range addrs {
		cells = append(cells, a, m.heap[a])
	}
	m.states = append(m.states, api.State{Node: node, What: m.what, Store: []int{m.store["x"], m.store["y"]}, Cells: cells})
}

func (m *model) fail(node, addr int) {
	m.what = api.Dangling
	if addr == 0 {
		m.what = api.Null
	}
	m.note(node)
}

// finish comes to the end, if the run does.
func (m *model) finish(node int) {
	if m.what != api.Going || len(m.states) > len(m.choices) {
		return
	}
	m.what = api.Done
	if m.leaks() {
		m.what = api.Leaks
	}
	m.note(node)
}

// block runs commands, the first of which is that node.
func (m *model) block(list []*tree, node int) {
	for _, c := range list {
		if !m.tell(node) {
			return
		}
		m.command(c, node, m.choices[len(m.states)-1])
		node += size([]*tree{c})
	}
}

func (m *model) command(c *tree, node, choice int) {
	so := c.v == "*" && choice%2 != 0 || c.v != "*" && m.store[c.v] == m.store[c.w]
	v, w := m.store[c.v], m.store[c.w]
	_, atV := m.heap[v]
	_, atW := m.heap[w]
	behind := node + 1 + size(c.first)
	switch {
	case c.kind == "if" && so:
		m.block(c.first, node+1)
	case c.kind == "else" && so:
		m.block(c.first, node+1)
		m.tell(behind)
	case c.kind == "else":
		m.block(c.other, behind+1)
	case c.kind == "while" && so:
		m.block(c.first, node+1)
		if m.tell(behind) && m.tell(node) {
			m.command(c, node, m.choices[len(m.states)-1])
		}
	case c.kind == "assign":
		m.store[c.v] = w
	case c.kind == "new":
		m.store[c.v] = choice
		m.heap[choice] = 0
	case c.kind == "follow" && !atW:
		m.fail(node, w)
	case c.kind == "follow":
		m.store[c.v] = m.heap[w]
	case (c.kind == "link" || c.kind == "free") && !atV:
		m.fail(node, v)
	case c.kind == "link":
		m.heap[v] = w
	case c.kind == "free":
		delete(m.heap, v)
	}
}

func (m *model) leaks() bool {
	seen := map[int]bool{}
	for _, a := range m.store {
		for _, there := m.heap[a]; there && !seen[a]; _, there = m.heap[a] {
			seen[a] = true
			a = m.heap[a]
		}
	}
	return len(seen) < len(m.heap)
}

// steps tells the states of a run of the machine. The choices rise, so that
// none is the address of a cell.
func steps(t *testing.T, s string, choices []int) []api.State {
	t.Helper()
	code, e := syntax.Read(s)
	if e != api.OK {
		t.Fatalf("%q: %d", s, e)
	}
	r, e := Start(code, []int{4, 9}, []int{4, 5, 5, 0})
	if e != api.OK {
		t.Fatalf("%q: Start = %d", s, e)
	}
	states := []api.State{r.State()}
	for _, c := range choices {
		if e := r.Step(c); e != api.OK {
			t.Fatalf("%q: Step(%d) = %d", s, c, e)
		}
		states = append(states, r.State())
	}
	return states
}

func TestRunsAreLikeTheModel(t *testing.T) {
	seed := uint32(11)
	ends := [5]int{}
	for i := 0; i < 20000; i++ {
		list := grow(&seed, 2)
		s := "pre ls(x,nil) * y = y {" + texts(list) + "}"
		if len(s) > api.MaxText {
			continue
		}
		choices := make([]int, 40)
		for k := range choices {
			choices[k] = 10 + 2*k + next(&seed, 2)
		}
		m := &model{store: map[string]int{"x": 4, "y": 9}, heap: map[int]int{4: 5, 5: 0}, choices: choices}
		m.block(list, 0)
		m.finish(size(list))
		got := steps(t, s, choices)
		last := m.states[len(m.states)-1]
		for k := range got {
			want := last
			if k < len(m.states) {
				want = m.states[k]
			}
			if !reflect.DeepEqual(got[k], want) {
				t.Fatalf("P7: %q by %v: step %d: %+v, want %+v", s, choices, k, got[k], want)
			}
		}
		ends[last.What]++
	}
	for what, n := range ends {
		if n < 200 {
			t.Errorf("only %d runs stand as %d: the test says little", n, what)
		}
	}
}
