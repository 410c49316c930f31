// Package parse reads the text of a kernel and tells its first fault.
package parse

import (
	"kernels/api"
	"kernels/prog"
	"kernels/text"
)

// Kernel reads a text; with a fault (P3) the program is empty.
func Kernel(s string) (prog.Program, api.Errno, int) {
	if len(s) > api.MaxText {
		return prog.Program{}, api.ErrLong, 0
	}
	p, line := lines(s)
	if line != 0 {
		return prog.Program{}, api.ErrSyntax, line
	}
	line = p.InnerBarrier()
	if line != 0 {
		return prog.Program{}, api.ErrBarrier, line
	}
	line = p.UnevenBarriers()
	if line != 0 {
		return prog.Program{}, api.ErrBarrier, line
	}
	if p.OverLimit() {
		return prog.Program{}, api.ErrLimit, 0
	}
	return p, api.OK, 0
}

// lines reads a text line by line; the line that is answered is that of the
// first fault, 0 if there is none.
func lines(s string) (prog.Program, int) {
	draft := prog.NewDraft(api.MaxStmts)
	all, ended := text.Lines(s)
	for i, line := range all {
		words := text.Split(line, " ")
		ok := take(&draft, words, i+1)
		if !ok {
			return prog.Program{}, i + 1
		}
	}
	if !ended || !draft.IsWhole() {
		return prog.Program{}, len(all) + 1
	}
	return draft.Program(), 0
}

// take takes the words of one line; it answers false if the line cannot
// stand where it stands.
func take(draft *prog.Draft, words []string, line int) bool {
	if len(words) > 0 && words[0] == "thread" {
		return begin(draft, words, line)
	}
	st, ok := statement(words)
	if !ok {
		return false
	}
	st.Line = line
	return draft.Put(st)
}

// begin begins a thread.
func begin(draft *prog.Draft, words []string, line int) bool {
	if len(words) != 2 || len(words[1]) != 1 {
		return false
	}
	block, ok := digit(words[1][0], prog.Blocks)
	if !ok {
		return false
	}
	return draft.Begin(block, line)
}
