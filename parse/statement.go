package parse

import (
	"kernels/api"
	"kernels/prog"
)

// statement reads a line's words as a statement, wherever it stands.
func statement(words []string) (prog.Stmt, bool) {
	if len(words) == 0 {
		return prog.Stmt{}, false
	}
	switch words[0] {
	case "store":
		return store(words)
	case "fence":
		return fence(words)
	case "barrier":
		return prog.Stmt{Kind: prog.Barrier}, len(words) == 1
	case "if":
		return condition(words)
	case "end":
		return prog.Stmt{Kind: prog.End}, len(words) == 1
	}
	return assignment(words)
}

func store(words []string) (prog.Stmt, bool) {
	if len(words) < 3 {
		return prog.Stmt{}, false
	}
	st := prog.Stmt{Kind: prog.Store}
	ok := target(&st, words[1], words[2])
	if !ok {
		return prog.Stmt{}, false
	}
	ok = ordering(&st, words[3:])
	return st, ok
}

func fence(words []string) (prog.Stmt, bool) {
	if len(words) < 1 {
		return prog.Stmt{}, false
	}
	st := prog.Stmt{Kind: prog.Fence}
	ok := ordering(&st, words[1:])
	return st, ok
}

func condition(words []string) (prog.Stmt, bool) {
	if len(words) != 2 {
		return prog.Stmt{}, false
	}
	a, ok := operand(words[1])
	return prog.Stmt{Kind: prog.If, A: a}, ok
}

// assignment reads what gives a register its value.
func assignment(words []string) (prog.Stmt, bool) {
	if len(words) < 3 || words[1] != "=" {
		return prog.Stmt{}, false
	}
	dest, ok := register(words[0])
	if !ok {
		return prog.Stmt{}, false
	}
	st := prog.Stmt{Dest: dest}
	switch words[2] {
	case "load":
		ok = load(&st, words[3:])
	case "add":
		ok = step(&st, prog.Add, words[3:])
	case "swap":
		ok = step(&st, prog.Swap, words[3:])
	default:
		ok = sum(&st, words[2:])
	}
	return st, ok
}

func load(st *prog.Stmt, words []string) bool {
	if len(words) < 1 {
		return false
	}
	v, ok := variable(words[0])
	if !ok {
		return false
	}
	st.Kind = prog.Load
	st.Var = v
	return ordering(st, words[1:])
}

func step(st *prog.Stmt, kind int, words []string) bool {
	if len(words) < 2 {
		return false
	}
	st.Kind = kind
	ok := target(st, words[0], words[1])
	if !ok {
		return false
	}
	return ordering(st, words[2:])
}

// sum reads one operand, or two with a sign between.
func sum(st *prog.Stmt, words []string) bool {
	if len(words) != 1 && len(words) != 3 {
		return false
	}
	a, ok := operand(words[0])
	if !ok {
		return false
	}
	st.Kind = prog.Move
	st.A = a
	if len(words) == 1 {
		return true
	}
	kind, ok := sign(words[1])
	if !ok {
		return false
	}
	b, ok := operand(words[2])
	st.Kind = kind
	st.B = b
	return ok
}

func sign(word string) (int, bool) {
	switch word {
	case "+":
		return prog.Plus, true
	case "-":
		return prog.Minus, true
	case "==":
		return prog.Equal, true
	}
	return 0, false
}

// target reads the variable that is written and the operand.
func target(st *prog.Stmt, place string, value string) bool {
	v, ok := variable(place)
	if !ok {
		return false
	}
	a, ok := operand(value)
	st.Var = v
	st.A = a
	return ok
}

// ordering reads the order and, unless it is weak, the scope: the last words
// of a line.
func ordering(st *prog.Stmt, words []string) bool {
	if len(words) < 1 {
		return false
	}
	o, ok := order(words[0])
	if !ok || !prog.Allows(st.Kind, o) {
		return false
	}
	st.Order = o
	if o == api.Weak {
		return len(words) == 1
	}
	if len(words) != 2 {
		return false
	}
	s, ok := scope(words[1])
	st.Scope = s
	return ok
}
