package ways

import (
	"kernels/api"
	"kernels/prog"
)

// narrowed gives scope block to what no thread of the other block could be
// strong to by a wider one (P10.1).
func narrowed(p prog.Program, stmts []prog.Stmt) []prog.Stmt {
	var all []prog.Stmt
	for _, st := range stmts {
		if staysInBlock(p, st) {
			st.Scope = api.Block
		}
		all = append(all, st)
	}
	return all
}

func staysInBlock(p prog.Program, st prog.Stmt) bool {
	if st.Kind == prog.Fence {
		return ofOneBlock(p)
	}
	return prog.IsAccess(st.Kind) && !bothReach(p, st.Var)
}

// ofOneBlock tells whether all threads are of one block.
func ofOneBlock(p prog.Program) bool {
	for _, t := range p.Threads {
		if t.Block != p.Threads[0].Block {
			return false
		}
	}
	return true
}
