package ways

import (
	"kernels/api"
	"kernels/prog"
)

func fenced(p prog.Program, stmts []prog.Stmt) []prog.Stmt {
	var all []prog.Stmt
	for _, st := range stmts {
		if !prog.IsAccess(st.Kind) || !isPure(p, st.Var) {
			all = append(all, st)
			continue
		}
		order := st.Order
		fence := prog.Stmt{Kind: prog.Fence, Line: st.Line, Order: api.AcqRel, Scope: st.Scope}
		if prog.Releases(order) {
			all = append(all, fence)
		}
		// A pure variable has no weak ones that this would make stronger.
		st.Order = api.Relaxed
		all = append(all, st)
		if prog.Acquires(order) {
			all = append(all, fence)
		}
	}
	return all
}

// isPure tells whether fences can stand in for the orders of a variable.
func isPure(p prog.Program, v int) bool {
	shared := bothReach(p, v)
	for _, t := range p.Threads {
		for _, st := range t.Stmts {
			if st.Reaches(v) && needsItsOrder(st, shared) {
				return false
			}
		}
	}
	return true
}

// needsItsOrder tells of an access whether its variable is not pure by it;
// shared: threads of both blocks reach that variable. Of those a step of scope
// block counts as a load or store does: not strong to what was acquired, it
// could miss that behind a fence.
func needsItsOrder(st prog.Stmt, shared bool) bool {
	if st.Order == api.Weak {
		return true
	}
	return shared && (st.Scope == api.Block || st.Order == api.AcqRel)
}
