package asm

import (
	"kernels/api"
	"kernels/prog"
)

// readOrdering reads what stands behind that with which lines of the kind
// begin.
func readOrdering(st *prog.Stmt, rest string) bool {
	if !isOrdered(st.Kind) {
		return rest == ""
	}
	for o := api.Weak; o <= api.SC; o++ {
		for scope := api.Block; scope <= api.Device; scope++ {
			if prog.Allows(st.Kind, o) && rest == ordering(o, scope) {
				st.Order = o
				st.Scope = scope
				return true
			}
		}
	}
	return false
}

// readOperands reads the operands that the letters of a layout ask for.
func readOperands(st prog.Stmt, letters string, operands []string) (prog.Stmt, bool) {
	if len(letters) != len(operands) {
		return prog.Stmt{}, false
	}
	for i, word := range operands {
		ok := readPart(&st, letters[i], word)
		if !ok {
			return prog.Stmt{}, false
		}
	}
	return st, true
}

// readPart reads the operand of that letter of a layout. The label is known:
// the word must be that.
func readPart(st *prog.Stmt, letter byte, word string) bool {
	switch letter {
	case 'd':
		n, ok := readRegister(word)
		st.Dest = n
		return ok
	case 'v':
		v, ok := readVariable(word)
		st.Var = v
		return ok
	case 'a':
		a, ok := readOperand(word)
		st.A = a
		return ok
	case 'b':
		b, ok := readOperand(word)
		st.B = b
		return ok
	}
	return word == label(st.Label)
}

func readRegister(word string) (int, bool) {
	for n := 0; n < api.Regs; n++ {
		if word == register(n) {
			return n, true
		}
	}
	return 0, false
}

func readVariable(word string) (int, bool) {
	for v := 0; v < api.Vars; v++ {
		if word == variable(v) {
			return v, true
		}
	}
	return 0, false
}

func readOperand(word string) (prog.Operand, bool) {
	for n := 0; n < api.Values; n++ {
		a := prog.Operand{N: n}
		if word == operand(a) {
			return a, true
		}
	}
	n, ok := readRegister(word)
	return prog.Operand{IsReg: true, N: n}, ok
}
