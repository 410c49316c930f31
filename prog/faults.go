package prog

import "kernels/api"

// InnerBarrier answers the line of the first barrier that stands within an
// if, 0 if there is none.
func (p Program) InnerBarrier() int {
	for _, t := range p.Threads {
		depth := 0
		for _, st := range t.Stmts {
			switch st.Kind {
			case If:
				depth++
			case End:
				depth--
			case Barrier:
				if depth > 0 {
					return st.Line
				}
			}
		}
	}
	return 0
}

// UnevenBarriers answers the line of the first thread that has not as many
// barriers as the first one of its block, or too many; 0 if there is none.
func (p Program) UnevenBarriers() int {
	for _, t := range p.Threads {
		n := t.barriers()
		wanted := p.barriersOfBlock(t.Block)
		if n != wanted || n > api.MaxBars {
			return t.Line
		}
	}
	return 0
}

// barriersOfBlock answers how many barriers the first thread of a block has.
func (p Program) barriersOfBlock(block int) int {
	for _, t := range p.Threads {
		if t.Block == block {
			return t.barriers()
		}
	}
	return 0
}

func (t Thread) barriers() int {
	n := 0
	for _, st := range t.Stmts {
		if st.Kind == Barrier {
			n++
		}
	}
	return n
}

// OverLimit tells whether all threads together read, write or fence more
// than may be.
func (p Program) OverLimit() bool {
	reads := 0
	writes := 0
	fences := 0
	for _, t := range p.Threads {
		for _, st := range t.Stmts {
			if Reads(st.Kind) {
				reads++
			}
			if Writes(st.Kind) {
				writes++
			}
			if st.Kind == Fence && st.Order == api.SC {
				fences++
			}
		}
	}
	return reads > api.MaxReads || writes > api.MaxWrites || fences > api.MaxSC
}

// OverEvents tells whether the fences of all threads, and twice the barriers,
// are more than may be.
func (p Program) OverEvents() bool {
	n := 0
	for _, t := range p.Threads {
		for _, st := range t.Stmts {
			switch st.Kind {
			case Fence:
				n++
			case Barrier:
				n += 2
			}
		}
	}
	return n > api.MaxEvents
}
