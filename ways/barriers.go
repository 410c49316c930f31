package ways

import "kernels/prog"

// idleBetweenBarriers tells whether no thread of a block does anything between
// its first and its second barrier that another thread could learn of
// (P10.2). A block that has no second barriers has none to lose, whatever is
// answered of it.
func idleBetweenBarriers(p prog.Program, block int) bool {
	for _, t := range p.Threads {
		if t.Block != block {
			continue
		}
		if !idles(t.Stmts) {
			return false
		}
	}
	return true
}

// idles needs no look at which if a statement stands in: a barrier stands in
// none, so that an if between two of them ends there too.
func idles(stmts []prog.Stmt) bool {
	barriers := 0
	for _, st := range stmts {
		if st.Kind == prog.Barrier {
			barriers++
			continue
		}
		if barriers == 1 && !ofRegisters(st.Kind) {
			return false
		}
	}
	return true
}

// ofRegisters: an if and its end are as what stands in it.
func ofRegisters(kind int) bool {
	switch kind {
	case prog.Move, prog.Plus, prog.Minus, prog.Equal, prog.If, prog.End:
		return true
	}
	return false
}

func withoutSecondBarrier(stmts []prog.Stmt) []prog.Stmt {
	barriers := 0
	var all []prog.Stmt
	for _, st := range stmts {
		if st.Kind == prog.Barrier {
			barriers++
			if barriers == 2 {
				continue
			}
		}
		all = append(all, st)
	}
	return all
}
