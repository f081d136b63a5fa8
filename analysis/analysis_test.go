package analysis

import (
	"reflect"
	"strings"
	"testing"

	"lists/api"
)

// Programs with loops that only an analyser with lists can call safe, beside
// those of the document's table.
var safeLoops = []string{
	"pre ls(x,nil){y=x;z=nil;while(y!=nil){z=y;y=y.n;}w=new;z.n=w;}",
	"pre ls(x,nil){y=x;z=x.n;while(z!=nil){if(*){w=z.n;y.n=w;free z;z=w;}else{y=z;z=z.n;}}}",
	"pre ls(x,nil){y=nil;z=nil;while(x!=nil){w=x.n;if(*){x.n=y;y=x;}else{x.n=z;z=x;}x=w;}}",
	"pre ls(x,nil)*ls(y,nil){z=x;while(z!=nil){w=z;z=z.n;}w.n=y;while(x!=nil){w=x.n;free x;x=w;}}",
	"pre emp{x=new;x.n=x;while(*){y=new;z=x.n;y.n=z;x.n=y;}y=x.n;while(y!=x){z=y.n;free y;y=z;}free x;}",
	"pre ls(x,y)*y->nil{while(*){z=new;y.n=z;y=z;}while(x!=nil){z=x.n;free x;x=z;}}",
	"pre ls(x,nil){y=x;while(y!=nil){z=y;while(z!=nil){z=z.n;}y=y.n;}}",
	"pre ls(x,nil){while(x!=nil){y=x;z=nil;w=y.n;while(w!=nil){z=y;y=w;w=w.n;}free y;if(z=nil){x=nil;}else{z.n=nil;}}}",
	"pre emp{x=nil;y=nil;while(*){z=new;if(x=nil){x=z;}else{y.n=z;}y=z;}while(x!=nil){z=x.n;free x;x=z;}}",
	"pre ls(x,A)*ls(y,A)*ls(A,nil){z=x;while(z!=nil){z=z.n;}z=y;while(z!=nil){z=z.n;}}",
	"pre ls(x,y)*ls(y,y){z=x;while(z!=y){z=z.n;}z=z.n;while(z!=y){z=z.n;}}",
	"pre ls(x,nil){y=x;while(*){if(y!=nil){y=y.n;}}if(y!=nil){z=y.n;y.n=nil;}}",
	"pre ls(x,nil){y=new;y.n=x;z=y;while(x!=nil){if(*){w=x.n;z.n=w;free x;x=w;}else{z=x;x=x.n;}}x=y.n;free y;}",
	"pre x!=y*z->nil{while(*){w=new;w.n=z;z=w;}if(x=y){free x;}}",
	"pre x->nil{free x;while(*){y=new;free y;}if(x=nil){free x;}}",
}

func TestSafeLoops(t *testing.T) {
	seed := uint32(111)
	for _, s := range safeLoops {
		if v := sound(t, s, &seed); v != api.Safe {
			t.Errorf("P10: %q: verdict %d, alarms %v", s, v, Of(read(t, s)).Alarms)
		}
	}
}

// with lays something into a program behind one of its semicolons.
func with(seed *uint32, s, more string) string {
	parts := strings.SplitAfter(s, ";")
	i := next(seed, len(parts)-1)
	parts[i] += more
	return strings.Join(parts, "")
}

// lacking takes a command away.
func lacking(seed *uint32, s string) string {
	parts := strings.SplitAfter(s, ";")
	i := 1 + next(seed, len(parts)-1)
	parts[i] = parts[i][:strings.LastIndexAny(parts[i], "{}")+1]
	return strings.Join(parts, "")
}

// What is wrong with programs that are nearly safe is told, too.
func TestSoundOfChangedLoops(t *testing.T) {
	seed := uint32(113)
	var verdicts [3]int
	for i := 0; i < 600; i++ {
		s := safeLoops[next(&seed, len(safeLoops))]
		for k := next(&seed, 3); k >= 0; k-- {
			if next(&seed, 2) == 0 {
				s = with(&seed, s, plain(&seed, "xyzw"))
			} else {
				s = lacking(&seed, s)
			}
		}
		verdicts[sound(t, s, &seed)]++
	}
	if verdicts[api.Safe] < 60 || verdicts[api.Alarms] < 200 || verdicts[api.GaveUp] > 60 {
		t.Errorf("%v: the test says little", verdicts)
	}
}

// With a loop, lost cells are told where they are lost; those that the
// precondition has lost, at the end.
func TestWhereCellsAreLost(t *testing.T) {
	for _, c := range []struct {
		s    string
		want []api.Alarm
	}{
		{"pre ls(x,nil){while(x!=nil){x=x.n;}}", []api.Alarm{{Node: 1, What: api.Leaks}}},
		{"pre ls(x,nil){while(*){skip;}free x;}", []api.Alarm{{Node: 3, What: api.Leaks}}},
		{"pre emp{while(*){x=new;}}", []api.Alarm{{Node: 1, What: api.Leaks}}},
		{"pre emp{x=new;x.n=x;x=nil;while(*){skip;}}", []api.Alarm{{Node: 2, What: api.Leaks}}},
		{"pre x->nil{x.n=x;while(*){y=new;x.n=y;}}", []api.Alarm{{Node: 3, What: api.Leaks}}},
		{"pre A->nil{while(*){skip;}}", []api.Alarm{{Node: 3, What: api.Leaks}}},
		{"pre A->nil*ls(x,nil){while(*){skip;}x=nil;}", []api.Alarm{{Node: 3, What: api.Leaks}, {Node: 4, What: api.Leaks}}},
		{"pre x->A*A->nil{y=x.n;while(*){skip;}free x;x=nil;}", nil},
	} {
		if got := Of(read(t, c.s)).Alarms; !reflect.DeepEqual(got, c.want) {
			t.Errorf("P10: %q: %v, want %v", c.s, got, c.want)
		}
	}
}

// A cell that seems lost may be at a variable's value: what then goes wrong is
// told, too.
func TestCellsThatAreFoundAgain(t *testing.T) {
	for _, c := range []struct {
		s    string
		want []api.Alarm
	}{
		{"pre A->nil{while(*){skip;}free x;free x;}", []api.Alarm{{Node: 3, What: api.Null}, {Node: 3, What: api.Dangling}, {Node: 4, What: api.Dangling}, {Node: 5, What: api.Leaks}}},
		{"pre ls(A,nil)*x!=nil{while(x!=x){skip;}x=x.n;x=x.n;}", []api.Alarm{{Node: 3, What: api.Leaks}, {Node: 3, What: api.Dangling}, {Node: 4, What: api.Leaks}, {Node: 4, What: api.Null}, {Node: 5, What: api.Leaks}}},
		{"pre x->nil{free x;while(x!=x){skip;}y=new;y=nil;free x;y=x.n;}", []api.Alarm{{Node: 5, What: api.Leaks}, {Node: 6, What: api.Dangling}, {Node: 7, What: api.Dangling}}},
	} {
		if got := Of(read(t, c.s)).Alarms; !reflect.DeepEqual(got, c.want) {
			t.Errorf("P10: %q: %v, want %v", c.s, got, c.want)
		}
	}
}

// What takes too many names or too many formulas is given up, and nothing is
// told beside it.
func TestGaveUp(t *testing.T) {
	for _, s := range []string{
		"pre ls(x,nil)*y=x{" + strings.Repeat("y=y.n;", 30) + "}",
		"pre emp{" + strings.Repeat("x=new;", 30) + "}",
		"pre C->z*x->D*B->E*ls(A,E)*ls(E,B)*ls(D,w){y=y.n;z=z.n;free w;w=w.n;}",
	} {
		r := Of(read(t, s))
		if r.Verdict != api.GaveUp || r.Alarms != nil || r.Known != nil {
			t.Errorf("P10: %q: %d, %v, %d nodes", s, r.Verdict, r.Alarms, len(r.Known))
		}
	}
}

func TestIsSimple(t *testing.T) {
	for _, c := range []struct {
		s    string
		want bool
	}{
		{"pre emp{}", true},
		{"pre emp{if(*){}if(x=y){}if(x!=y){}if(x=nil){}if(*){}else{}}", true},
		{"pre emp{if(*){}if(x=y){}if(x!=y){}if(x=nil){}if(*){}if(*){}}", false},
		{"pre emp{if(*){if(*){if(*){if(*){if(*){if(*){}}}}}}}", false},
		{"pre emp{while(*){}}", false},
		{"pre emp{if(*){while(x!=x){}}}", false},
		{"pre x->nil{}", true},
		{"pre ls(x,nil){}", false},
		{"pre x->nil*y!=x*ls(z,nil){}", false},
		{"pre emp{x=new;x=new;x=new;x=new;}", true},
		{"pre emp{x=new;x=new;x=new;x=new;x=new;}", false},
		{"pre x=A*y=B*z=w{}", true},
		{"pre x=A*y=B*C=w*z=z{}", false},
		{"pre A=B*C=D*E=F{}", true},
		{"pre A=B*C=D*E=F*G=G{}", false},
		{"pre A=B*C=D{x=new;y=new;}", true},
		{"pre A=B*C=D{x=new;y=new;x=new;}", false},
		{"pre A=B*x=x{y=new;z=new;w=new;}", false},
		{"pre A=A*x=x{y=new;z=new;y=new;z=new;}", true},
	} {
		if got := isSimple(read(t, c.s)); got != c.want {
			t.Errorf("P12: %q: %v", c.s, got)
		}
	}
}

// A simple program is never given up, even if it takes more formulas than others
// may.
func TestSimpleNeedsMany(t *testing.T) {
	s := "pre emp*A->nil*y->A*x->y*B->x{if(*){z.n=x;x=z;}else{free w;}x=new;y=z.n;y=new;w.n=y;if(*){x=x;y=z;}else{w=x;}if(*){w=z.n;z=nil;}y.n=x;if(*){y=z;}else{free y;}if(*){x.n=x;x.n=x;}else{w=w;}y=nil;z=nil;z=x.n;x=w.n;z=w.n;y=x.n;y=w.n;}"
	r := Of(read(t, s))
	count := 0
	for _, l := range r.Known {
		count += len(l)
	}
	if r.Verdict != api.Alarms || count <= api.MaxStates {
		t.Errorf("P12: verdict %d, %d formulas", r.Verdict, count)
	}
}
