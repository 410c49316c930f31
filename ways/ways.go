// Package ways: what becomes of a kernel, ahead of its being written, in the
// ways to compile that are not way 0.
package ways

import "kernels/prog"

// Trimmed narrows scopes, and leaves out barriers and fences that do nothing
// (P10). Each rule takes what the one ahead of it has left: a fence may go
// because its scope has become narrower. Scopes have no say in which barriers
// go, so that p tells that as well.
func Trimmed(p prog.Program) prog.Program {
	var all []prog.Thread
	for _, t := range p.Threads {
		stmts := narrowed(p, t.Stmts)
		if idleBetweenBarriers(p, t.Block) {
			stmts = withoutSecondBarrier(stmts)
		}
		t.Stmts = withoutCoveredFences(stmts)
		all = append(all, t)
	}
	return prog.Program{Threads: all}
}

// Fenced has fences do what acquire and release do, of pure variables (P9).
func Fenced(p prog.Program) prog.Program {
	var all []prog.Thread
	for _, t := range p.Threads {
		t.Stmts = fenced(p, t.Stmts)
		all = append(all, t)
	}
	return prog.Program{Threads: all}
}

// bothReach tells whether threads of both blocks have a load, store or step
// of the variable.
func bothReach(p prog.Program, v int) bool {
	for block := 0; block < prog.Blocks; block++ {
		if !blockReaches(p, block, v) {
			return false
		}
	}
	return true
}

func blockReaches(p prog.Program, block int, v int) bool {
	for _, t := range p.Threads {
		if t.Block != block {
			continue
		}
		for _, st := range t.Stmts {
			if st.Reaches(v) {
				return true
			}
		}
	}
	return false
}
