package parse

import (
	"reflect"
	"strings"
	"testing"

	"kernels/api"
	"kernels/prog"
)

func TestWhatIsRead(t *testing.T) {
	s := "thread 1\nr3 = load z acquire device\nif r2\nstore y 3 weak\nend\nthread 0\nr1 = swap x r0 acqrel block\nfence sc device\nbarrier\nr0 = 1 - r3\nif 0\nend\n"
	r := func(n int) prog.Operand { return prog.Operand{IsReg: true, N: n} }
	n := func(n int) prog.Operand { return prog.Operand{N: n} }
	want := prog.Program{Threads: []prog.Thread{
		{Block: 1, Line: 1, Stmts: []prog.Stmt{
			{Kind: prog.Load, Line: 2, Dest: 3, Var: 2, Order: api.Acquire, Scope: api.Device},
			{Kind: prog.If, Line: 3, A: r(2), Label: 1},
			{Kind: prog.Store, Line: 4, Var: 1, A: n(3), Order: api.Weak},
			{Kind: prog.End, Line: 5, Label: 1},
		}},
		{Block: 0, Line: 6, Stmts: []prog.Stmt{
			{Kind: prog.Swap, Line: 7, Dest: 1, Var: 0, A: r(0), Order: api.AcqRel, Scope: api.Block},
			{Kind: prog.Fence, Line: 8, Order: api.SC, Scope: api.Device},
			{Kind: prog.Barrier, Line: 9},
			{Kind: prog.Minus, Line: 10, Dest: 0, A: n(1), B: r(3)},
			{Kind: prog.If, Line: 11, A: n(0), Label: 2},
			{Kind: prog.End, Line: 12, Label: 2},
		}},
	}}
	p, e, line := Kernel(s)
	if !reflect.DeepEqual(p, want) || e != api.OK || line != 0 {
		t.Errorf("P2: read %v, %d, %d", p, e, line)
	}
}

func TestNothingIsReadWithAFault(t *testing.T) {
	for _, c := range []struct {
		s    string
		e    api.Errno
		line int
	}{
		{strings.Repeat("\n", 2001), api.ErrLong, 0},
		{"", api.ErrSyntax, 1},
		{"thread 0\nbarrier", api.ErrSyntax, 2},
		{"thread 0\nif 1\n", api.ErrSyntax, 3},
		{"thread 0\nif 1\nbarrier\nend\n", api.ErrBarrier, 3},
		{"thread 0\nthread 0\nbarrier\n", api.ErrBarrier, 2},
		{"thread 0\n" + strings.Repeat("fence sc block\n", 4), api.ErrLimit, 0},
	} {
		p, e, line := Kernel(c.s)
		if p.Threads != nil || e != c.e || line != c.line {
			t.Errorf("P3: Kernel(%.40q) = %v, %d, %d, want %d, %d", c.s, p, e, line, c.e, c.line)
		}
	}
}
