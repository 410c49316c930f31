// Package parse reads the text of a kernel and tells its first fault.
package parse

import (
	"kernels/api"
	"kernels/prog"
)

// Kernel reads a text; with a fault (P3) the program is empty.
func Kernel(s string) (prog.Program, api.Errno, int) {
	if len(s) > api.MaxText {
		return prog.Program{}, api.ErrLong, 0
	}
	p, line := lines(s)
	if line != 0 {
		return prog.Program{}, api.ErrSyntax, line
	}
	line = p.InnerBarrier()
	if line != 0 {
		return prog.Program{}, api.ErrBarrier, line
	}
	line = p.UnevenBarriers()
	if line != 0 {
		return prog.Program{}, api.ErrBarrier, line
	}
	if p.OverLimit() {
		return prog.Program{}, api.ErrLimit, 0
	}
	return p, api.OK, 0
}

// reader is what was read of a text so far.
type reader struct {
	threads []prog.Thread
	line    int   // the line that is read
	count   int   // statements of the last thread
	ifs     int   // of the whole text
	open    []int // labels of the ifs that are not ended
}

// lines reads a text line by line; the line that is answered is that of the
// first fault, 0 if there is none.
func lines(s string) (prog.Program, int) {
	var r reader
	from := 0
	for i := 0; i < len(s); i++ {
		if s[i] != '\n' {
			continue
		}
		r.line++
		words := split(s[from:i])
		ok := r.take(words)
		if !ok {
			return prog.Program{}, r.line
		}
		from = i + 1
	}
	if from < len(s) || len(r.open) > 0 || len(r.threads) == 0 {
		return prog.Program{}, r.line + 1
	}
	return prog.Program{Threads: r.threads}, 0
}

// take takes the words of one line; it answers false if the line cannot
// stand where it stands.
func (r *reader) take(words []string) bool {
	if len(words) > 0 && words[0] == "thread" {
		return r.begin(words)
	}
	if len(r.threads) == 0 {
		return false
	}
	st, ok := statement(words)
	if !ok {
		return false
	}
	st.Line = r.line
	if st.Kind == prog.End {
		return r.end(st)
	}
	if r.count >= api.MaxStmts {
		return false
	}
	r.count++
	if st.Kind == prog.If {
		return r.branch(st)
	}
	r.put(st)
	return true
}

// begin begins a thread.
func (r *reader) begin(words []string) bool {
	if len(r.threads) >= api.MaxThreads || len(r.open) > 0 {
		return false
	}
	if len(words) != 2 || len(words[1]) != 1 {
		return false
	}
	block, ok := digit(words[1][0], prog.Blocks)
	if !ok {
		return false
	}
	r.threads = append(r.threads, prog.Thread{Block: block, Line: r.line})
	r.count = 0
	return true
}

func (r *reader) branch(st prog.Stmt) bool {
	if len(r.open) >= api.MaxDepth {
		return false
	}
	r.ifs++
	st.Label = r.ifs
	r.open = append(r.open, r.ifs)
	r.put(st)
	return true
}

func (r *reader) end(st prog.Stmt) bool {
	last := len(r.open) - 1
	if last < 0 {
		return false
	}
	st.Label = r.open[last]
	r.open = r.open[:last]
	r.put(st)
	return true
}

// put lays a statement at the end of the last thread.
func (r *reader) put(st prog.Stmt) {
	last := len(r.threads) - 1
	if last < 0 {
		return
	}
	r.threads[last].Stmts = append(r.threads[last].Stmts, st)
}
