package ways

import (
	"kernels/api"
	"kernels/prog"
)

// withoutCoveredFences leaves out the fences that the one just ahead of them
// makes needless (P10.3). An if and an end are statements of their own here,
// so that fences of two ifs never stand side by side.
func withoutCoveredFences(stmts []prog.Stmt) []prog.Stmt {
	var all []prog.Stmt
	for _, st := range stmts {
		n := len(all)
		if n > 0 && covers(all[n-1], st) {
			continue
		}
		all = append(all, st)
	}
	return all
}

// covers tells whether both are fences, the first as strong as the second and
// as wide.
func covers(first prog.Stmt, second prog.Stmt) bool {
	if first.Kind != prog.Fence || second.Kind != prog.Fence {
		return false
	}
	strong := first.Order == api.SC || second.Order == api.AcqRel
	wide := first.Scope == api.Device || second.Scope == api.Block
	return strong && wide
}
