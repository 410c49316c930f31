package asm

import (
	"reflect"
	"strings"
	"testing"

	"kernels/api"
	"kernels/prog"
)

func TestWhatIsRead(t *testing.T) {
	s := ".thread 1\nld.acquire.gpu %r3, [z]\nbz %r2, L1\nst.weak [y], 3\nL1:\n.thread 0\natom.exch.acq_rel.cta %r1, [x], %r0\natom.add.relaxed.gpu %r2, [y], 1\n" +
		"fence.sc.gpu\nbar.sync\nmov %r0, %r1\nadd %r1, 2, %r3\nsub %r0, 1, %r3\nseteq %r3, %r0, 0\nbz 0, L2\nL2:\n"
	r := func(n int) prog.Operand { return prog.Operand{IsReg: true, N: n} }
	n := func(n int) prog.Operand { return prog.Operand{N: n} }
	want := prog.Program{Threads: []prog.Thread{
		{Block: 1, Line: 1, Stmts: []prog.Stmt{
			{Kind: prog.Load, Line: 2, Dest: 3, Var: 2, Order: api.Acquire, Scope: api.Device},
			{Kind: prog.If, Line: 3, A: r(2), Label: 1},
			{Kind: prog.Store, Line: 4, Var: 1, A: n(3), Order: api.Weak},
			{Kind: prog.End, Line: 5, Label: 1},
		}},
		{Block: 0, Line: 6, Stmts: []prog.Stmt{
			{Kind: prog.Swap, Line: 7, Dest: 1, Var: 0, A: r(0), Order: api.AcqRel, Scope: api.Block},
			{Kind: prog.Add, Line: 8, Dest: 2, Var: 1, A: n(1), Order: api.Relaxed, Scope: api.Device},
			{Kind: prog.Fence, Line: 9, Order: api.SC, Scope: api.Device},
			{Kind: prog.Barrier, Line: 10},
			{Kind: prog.Move, Line: 11, Dest: 0, A: r(1)},
			{Kind: prog.Plus, Line: 12, Dest: 1, A: n(2), B: r(3)},
			{Kind: prog.Minus, Line: 13, Dest: 0, A: n(1), B: r(3)},
			{Kind: prog.Equal, Line: 14, Dest: 3, A: r(0), B: n(0)},
			{Kind: prog.If, Line: 15, A: n(0), Label: 2},
			{Kind: prog.End, Line: 16, Label: 2},
		}},
	}}
	p, e, line := Read(s)
	if !reflect.DeepEqual(p, want) || e != api.OK || line != 0 {
		t.Errorf("P11: read %v, %d, %d", p, e, line)
	}
	if got := Write(p); got != s {
		t.Errorf("P8: written again it is %q", got)
	}
}

func TestNothingIsReadWithAFault(t *testing.T) {
	for _, c := range []struct {
		s    string
		e    api.Errno
		line int
	}{
		{strings.Repeat("\n", 2001), api.ErrLong, 0},
		{"", api.ErrSyntax, 1},
		{".thread 0\nbar.sync", api.ErrSyntax, 2},
		{".thread 0\nbz 1, L1\n", api.ErrSyntax, 3},
		{".thread 0\nbz 1, L1\nbar.sync\nL1:\n", api.ErrSyntax, 3},
		{".thread 0\n.thread 0\nbar.sync\n", api.ErrBarrier, 2},
		{".thread 0\n" + strings.Repeat("fence.sc.cta\n", 4), api.ErrLimit, 0},
		{strings.Repeat(".thread 0\n"+strings.Repeat("fence.acq_rel.cta\n", 26), 2), api.ErrLimit, 0},
	} {
		p, e, line := Read(c.s)
		if p.Threads != nil || e != c.e || line != c.line {
			t.Errorf("P11: Read(%.40q) = %v, %d, %d, want %d, %d", c.s, p, e, line, c.e, c.line)
		}
	}
}

func TestCut(t *testing.T) {
	for _, c := range []struct {
		s, first string
		operands []string
	}{
		{"", "", nil}, {"a", "a", nil}, {"a ", "a", []string{""}}, {" a", "", []string{"a"}}, {"a b", "a", []string{"b"}}, {"a b, c", "a", []string{"b", "c"}},
		{"a b c, d", "a", []string{"b c", "d"}}, {"a, b", "a,", []string{"b"}}, {"a b,c", "a", []string{"b,c"}}, {"a b,  c", "a", []string{"b", " c"}},
	} {
		first, operands := cut(c.s)
		if first != c.first || !reflect.DeepEqual(operands, c.operands) {
			t.Errorf("P11: cut(%q) = %q, %q", c.s, first, operands)
		}
	}
}

// TestReadAgain: what is written of a statement is read as that statement.
func TestReadAgain(t *testing.T) {
	for kind := prog.Load; kind <= prog.If; kind++ {
		for order := api.Weak; order <= api.SC; order++ {
			for scope := api.Block; scope <= api.Device; scope++ {
				want := example(kind, order, scope)
				got, ok := statement(instruction(want), 7)
				may := prog.Allows(kind, order) || !isOrdered(kind)
				if ok != may || may && !reflect.DeepEqual(got, want) {
					t.Errorf("P11: %q is read as %v, %v, want %v", instruction(want), got, ok, want)
				}
			}
		}
	}
}

// example is a statement of the kind in which all that it has stands.
func example(kind, order, scope int) prog.Stmt {
	st := prog.Stmt{Kind: kind}
	_, letters := layout(kind)
	for _, l := range letters {
		switch l {
		case 'd':
			st.Dest = 3
		case 'v':
			st.Var = 2
		case 'a':
			st.A = prog.Operand{IsReg: true, N: 1}
		case 'b':
			st.B = prog.Operand{N: 2}
		case 'l':
			st.Label = 7
		}
	}
	if isOrdered(kind) {
		st.Order = order
		if order != api.Weak {
			st.Scope = scope
		}
	}
	return st
}
