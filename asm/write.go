package asm

import "kernels/prog"

// Write lays a program out as instructions, line by line as it stands.
func Write(p prog.Program) string {
	text := ""
	for _, t := range p.Threads {
		text += thread(t.Block) + "\n"
		for _, st := range t.Stmts {
			text += instruction(st) + "\n"
		}
	}
	return text
}

// instruction makes the line of one statement.
func instruction(st prog.Stmt) string {
	if st.Kind == prog.End {
		return label(st.Label) + ":"
	}
	line, operands := layout(st.Kind)
	if isOrdered(st.Kind) {
		line += ordering(st.Order, st.Scope)
	}
	between := " "
	for i := 0; i < len(operands); i++ {
		line += between + part(st, operands[i])
		between = ", "
	}
	return line
}

// part is the operand of that letter of the layout.
func part(st prog.Stmt, letter byte) string {
	switch letter {
	case 'd':
		return register(st.Dest)
	case 'v':
		return variable(st.Var)
	case 'a':
		return operand(st.A)
	case 'b':
		return operand(st.B)
	}
	return label(st.Label)
}
