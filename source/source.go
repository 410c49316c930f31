// Package source: what may come out of a kernel by the rules of the source.
package source

import (
	"kernels/play"
	"kernels/prog"
	"kernels/relate"
)

// answer is what was found so far.
type answer struct {
	outcomes play.Outcomes
	clash    bool
}

// Outcomes are the outcomes of all candidates that may be, each once, rising,
// and whether there is a clash in one of these candidates.
func Outcomes(p prog.Program) ([][]int, bool) {
	var found answer
	all := relate.CandidatesOf(p)
	for all.Next() {
		before := beforeOf(all.Facts, all.Reads)
		found.orders(all.World, candidate{facts: all.Facts, reads: all.Reads, before: before})
	}
	return found.outcomes.Rows(), found.clash
}

// orders goes through the orders of writes; what a clash is does not hang on
// them.
func (found *answer) orders(w play.World, c candidate) {
	orders := w.WriteOrders()
	for orders.Next() {
		places := orders.Places()
		if !c.mayBe(places) {
			continue
		}
		outcome := w.Outcome(places)
		found.outcomes.Add(outcome)
		if !found.clash {
			found.clash = c.facts.Clashes(c.before)
		}
	}
}
