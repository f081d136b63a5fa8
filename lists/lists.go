// Package lists: programs on linked cells: see DOC.md.
package lists

import (
	"lists/analysis"
	"lists/api"
	"lists/follows"
	"lists/machine"
	"lists/syntax"
)

// Program is a program as it was read, and what was found.
type Program struct {
	code  *syntax.Program
	found *analysis.Result // nil as long as nobody has asked
}

// Run is a run of a program.
type Run struct {
	run *machine.Run
}

// Load reads a program (P3, P4).
func Load(s string) (*Program, api.Errno) {
	code, e := syntax.Read(s)
	if e != api.OK {
		return nil, e
	}
	return &Program{code: code}, api.OK
}

// empty tells whether a program did not come from Load: there is none in it then.
func (x *Program) empty() bool { return x == nil || x.code == nil }

// Text tells the program word by word (P4).
func (x *Program) Text() string {
	if x.empty() {
		return ""
	}
	return x.code.Text
}

// Vars tells how many variables there are (P4).
func (x *Program) Vars() int {
	if x.empty() {
		return 0
	}
	return len(x.code.Vars)
}

// Nodes tells how many nodes there are (P4).
func (x *Program) Nodes() int {
	if x.empty() {
		return 0
	}
	return len(x.code.Nodes)
}

// Start begins a run (P6).
func (x *Program) Start(store []int, cells []int) (*Run, api.Errno) {
	if x.empty() {
		return nil, api.ErrArg
	}
	run, e := machine.Start(x.code, store, cells)
	if e != api.OK {
		return nil, e
	}
	return &Run{run: run}, api.OK
}

// Step does one instruction (P7).
func (r *Run) Step(choice int) api.Errno {
	if r == nil || r.run == nil {
		return api.OK
	}
	return r.run.Step(choice)
}

// State tells how the run stands (P8).
func (r *Run) State() api.State {
	if r == nil || r.run == nil {
		return api.State{Store: []int{}, Cells: []int{}}
	}
	return r.run.State()
}

// Entails tells whether one formula is seen to follow from another (P9).
func Entails(s string, t string) (bool, api.Errno) {
	first, second, e := syntax.ReadTwo(s, t)
	if e != api.OK {
		return false, e
	}
	return follows.Follows(first, second)
}

// analyse analyses the program when it is first asked for: that may take longer
// than to read and run it.
func (x *Program) analyse() *analysis.Result {
	if x.found == nil {
		x.found = analysis.Of(x.code)
	}
	return x.found
}

// Verdict tells what the analyser says (P10).
func (x *Program) Verdict() int {
	if x.empty() {
		return api.GaveUp
	}
	return x.analyse().Verdict
}

// Alarms tells what may go wrong (P10).
func (x *Program) Alarms() []api.Alarm {
	if x.empty() {
		return nil
	}
	found := x.analyse()
	if len(found.Alarms) == 0 {
		return nil
	}
	list := make([]api.Alarm, len(found.Alarms))
	for i := 0; i < len(list); i++ {
		list[i] = found.Alarms[i]
	}
	return list
}

// Invariant tells what may stand ahead of a node (P11).
func (x *Program) Invariant(node int) []string {
	if x.empty() {
		return nil
	}
	found := x.analyse()
	if node < 0 || node >= len(found.Known) || len(found.Known[node]) == 0 {
		return nil
	}
	known := found.Known[node]
	list := make([]string, len(known))
	for i := 0; i < len(list); i++ {
		list[i] = known[i].Write(x.code.Vars)
	}
	return list
}
