package asm

import (
	"testing"

	"kernels/api"
	"kernels/prog"
)

func TestInstruction(t *testing.T) {
	r := func(n int) prog.Operand { return prog.Operand{IsReg: true, N: n} }
	n := func(n int) prog.Operand { return prog.Operand{N: n} }
	for _, c := range []struct {
		st   prog.Stmt
		want string
	}{
		{prog.Stmt{Kind: prog.Load, Dest: 1, Var: 2}, "ld.weak %r1, [z]"},
		{prog.Stmt{Kind: prog.Load, Dest: 0, Var: 0, Order: api.Acquire, Scope: api.Device}, "ld.acquire.gpu %r0, [x]"},
		{prog.Stmt{Kind: prog.Store, Var: 1, A: r(3)}, "st.weak [y], %r3"},
		{prog.Stmt{Kind: prog.Store, Var: 1, A: n(3), Order: api.Release}, "st.release.cta [y], 3"},
		{prog.Stmt{Kind: prog.Add, Dest: 2, Var: 0, A: n(0), Order: api.Relaxed, Scope: api.Device}, "atom.add.relaxed.gpu %r2, [x], 0"},
		{prog.Stmt{Kind: prog.Swap, Dest: 3, Var: 2, A: r(0), Order: api.AcqRel}, "atom.exch.acq_rel.cta %r3, [z], %r0"},
		{prog.Stmt{Kind: prog.Fence, Order: api.AcqRel, Scope: api.Device}, "fence.acq_rel.gpu"},
		{prog.Stmt{Kind: prog.Fence, Order: api.SC}, "fence.sc.cta"},
		{prog.Stmt{Kind: prog.Barrier}, "bar.sync"},
		{prog.Stmt{Kind: prog.Move, Dest: 1, A: r(2)}, "mov %r1, %r2"},
		{prog.Stmt{Kind: prog.Plus, Dest: 1, A: r(2), B: n(3)}, "add %r1, %r2, 3"},
		{prog.Stmt{Kind: prog.Minus, Dest: 1, A: n(2), B: r(3)}, "sub %r1, 2, %r3"},
		{prog.Stmt{Kind: prog.Equal, Dest: 1, A: r(1), B: r(1)}, "seteq %r1, %r1, %r1"},
		{prog.Stmt{Kind: prog.If, A: r(1), Label: 12}, "bz %r1, L12"},
		{prog.Stmt{Kind: prog.If, A: n(0), Label: 1}, "bz 0, L1"},
		{prog.Stmt{Kind: prog.End, Label: 12}, "L12:"},
	} {
		if got := instruction(c.st); got != c.want {
			t.Errorf("P8: %v: %q, want %q", c.st, got, c.want)
		}
	}
}

func TestWrite(t *testing.T) {
	p := prog.Program{Threads: []prog.Thread{{Block: 1}, {Block: 0, Stmts: []prog.Stmt{{Kind: prog.Barrier}, {Kind: prog.Barrier}}}}}
	if got := Write(p); got != ".thread 1\n.thread 0\nbar.sync\nbar.sync\n" {
		t.Errorf("P8: %q", got)
	}
	if got := Write(prog.Program{}); got != "" {
		t.Errorf("P8: of nothing %q", got)
	}
}
