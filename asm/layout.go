// Package asm: the text of instructions, written and read.
package asm

import (
	"strconv"

	"kernels/api"
	"kernels/prog"
)

// layout is how the line of a kind of statement is laid out, but for ends:
// what it begins with, and what its operands are, in their order: d the
// register that is given its value, v the variable, a and b operands, l a
// label. It is the table of P8, for writing and reading alike.
func layout(kind int) (string, string) {
	switch kind {
	case prog.Load:
		return "ld", "dv"
	case prog.Store:
		return "st", "va"
	case prog.Add:
		return "atom.add", "dva"
	case prog.Swap:
		return "atom.exch", "dva"
	case prog.Fence:
		return "fence", ""
	case prog.Barrier:
		return "bar.sync", ""
	case prog.Move:
		return "mov", "da"
	case prog.Plus:
		return "add", "dab"
	case prog.Minus:
		return "sub", "dab"
	case prog.Equal:
		return "seteq", "dab"
	}
	return "bz", "al"
}

// isOrdered tells whether an order stands in the lines of this kind.
func isOrdered(kind int) bool {
	return prog.IsAccess(kind) || kind == prog.Fence
}

func thread(block int) string {
	return ".thread " + strconv.Itoa(block)
}

func label(n int) string {
	return "L" + strconv.Itoa(n)
}

func register(n int) string {
	return "%r" + strconv.Itoa(n)
}

func operand(a prog.Operand) string {
	if a.IsReg {
		return register(a.N)
	}
	return strconv.Itoa(a.N)
}

func variable(v int) string {
	switch v {
	case 0:
		return "[x]"
	case 1:
		return "[y]"
	}
	return "[z]"
}

// ordering is the order and, unless it is weak, the scope.
func ordering(o int, scope int) string {
	if o == api.Weak {
		return ".weak"
	}
	if scope == api.Block {
		return order(o) + ".cta"
	}
	return order(o) + ".gpu"
}

func order(o int) string {
	switch o {
	case api.Relaxed:
		return ".relaxed"
	case api.Acquire:
		return ".acquire"
	case api.Release:
		return ".release"
	case api.AcqRel:
		return ".acq_rel"
	}
	return ".sc"
}
