package asm

import (
	"kernels/api"
	"kernels/prog"
	"kernels/text"
)

// Read reads a text of instructions; with a fault (P11) the program is empty.
func Read(s string) (prog.Program, api.Errno, int) {
	if len(s) > api.MaxText {
		return prog.Program{}, api.ErrLong, 0
	}
	p, line := lines(s)
	if line != 0 {
		return prog.Program{}, api.ErrSyntax, line
	}
	line = p.UnevenBarriers()
	if line != 0 {
		return prog.Program{}, api.ErrBarrier, line
	}
	if p.OverLimit() || p.OverEvents() {
		return prog.Program{}, api.ErrLimit, 0
	}
	return p, api.OK, 0
}

// lines reads a text line by line; the line that is answered is that of the
// first fault, 0 if there is none.
func lines(s string) (prog.Program, int) {
	draft := prog.NewDraft(api.MaxIns)
	all, ended := text.Lines(s)
	for i, line := range all {
		ok := take(&draft, line, i+1)
		if !ok {
			return prog.Program{}, i + 1
		}
	}
	if !ended || !draft.IsWhole() {
		return prog.Program{}, len(all) + 1
	}
	return draft.Program(), 0
}

// take takes a line; it answers false if the line cannot stand where it
// stands.
func take(draft *prog.Draft, line string, number int) bool {
	for block := 0; block < prog.Blocks; block++ {
		if line == thread(block) {
			return draft.Begin(block, number)
		}
	}
	open := draft.OpenLabel()
	if open != 0 && line == label(open)+":" {
		return draft.Put(prog.Stmt{Kind: prog.End, Line: number})
	}
	next := draft.NextLabel()
	st, ok := statement(line, next)
	if !ok || (st.Kind == prog.Barrier && open != 0) {
		return false
	}
	st.Line = number
	return draft.Put(st)
}

// statement reads a line as a statement but an end, wherever it stands; the
// label that a bz has there is next.
func statement(line string, next int) (prog.Stmt, bool) {
	first, operands := cut(line)
	for kind := prog.Load; kind <= prog.If; kind++ {
		begins, letters := layout(kind)
		if len(first) < len(begins) || first[:len(begins)] != begins {
			continue
		}
		st := prog.Stmt{Kind: kind}
		if kind == prog.If {
			st.Label = next
		}
		ok := readOrdering(&st, first[len(begins):])
		if ok {
			return readOperands(st, letters, operands)
		}
	}
	return prog.Stmt{}, false
}

// cut parts a line at its first blank, and what is behind that into operands.
func cut(line string) (string, []string) {
	for i := 0; i < len(line); i++ {
		if line[i] == ' ' {
			return line[:i], text.Split(line[i+1:], ", ")
		}
	}
	return line, nil
}
