// Package asm: the text of instructions.
package asm

import (
	"strconv"

	"kernels/api"
	"kernels/prog"
)

// Write lays a program out as instructions, line by line as it stands.
func Write(p prog.Program) string {
	text := ""
	for _, t := range p.Threads {
		text += ".thread " + strconv.Itoa(t.Block) + "\n"
		for _, st := range t.Stmts {
			text += instruction(st) + "\n"
		}
	}
	return text
}

// instruction makes the line of one statement. It names all parts that a
// line may have first, so that the lines below read like the table of P8.
func instruction(st prog.Stmt) string {
	d := register(st.Dest)
	v := "[" + variable(st.Var) + "]"
	a := operand(st.A)
	b := operand(st.B)
	suffix := ordering(st)
	label := "L" + strconv.Itoa(st.Label)
	switch st.Kind {
	case prog.Load:
		return "ld" + suffix + " " + d + ", " + v
	case prog.Store:
		return "st" + suffix + " " + v + ", " + a
	case prog.Add:
		return "atom.add" + suffix + " " + d + ", " + v + ", " + a
	case prog.Swap:
		return "atom.exch" + suffix + " " + d + ", " + v + ", " + a
	case prog.Fence:
		return "fence" + suffix
	case prog.Barrier:
		return "bar.sync"
	case prog.Move:
		return "mov " + d + ", " + a
	case prog.Plus:
		return "add " + d + ", " + a + ", " + b
	case prog.Minus:
		return "sub " + d + ", " + a + ", " + b
	case prog.Equal:
		return "seteq " + d + ", " + a + ", " + b
	case prog.If:
		return "bz " + a + ", " + label
	}
	return label + ":"
}

func register(n int) string {
	return "%r" + strconv.Itoa(n)
}

func operand(a prog.Operand) string {
	if a.IsReg {
		return register(a.N)
	}
	return strconv.Itoa(a.N)
}

func variable(v int) string {
	switch v {
	case 0:
		return "x"
	case 1:
		return "y"
	}
	return "z"
}

// ordering is the order and, unless it is weak, the scope.
func ordering(st prog.Stmt) string {
	if st.Order == api.Weak {
		return ".weak"
	}
	text := "." + order(st.Order)
	if st.Scope == api.Block {
		return text + ".cta"
	}
	return text + ".gpu"
}

func order(o int) string {
	switch o {
	case api.Relaxed:
		return "relaxed"
	case api.Acquire:
		return "acquire"
	case api.Release:
		return "release"
	case api.AcqRel:
		return "acq_rel"
	}
	return "sc"
}
