// Package target: what may come out of instructions by the rules of the
// target.
package target

import (
	"kernels/play"
	"kernels/prog"
	"kernels/rel"
	"kernels/relate"
)

// answer is what was found so far.
type answer struct {
	outcomes play.Outcomes
	clash    bool
}

// Outcomes are the outcomes of all candidates that may be, each once, rising,
// and whether there is a clash in one of these candidates.
func Outcomes(p prog.Program) ([][]int, bool) {
	var found answer
	all := relate.CandidatesOf(p)
	for all.Next() {
		c := candidate{facts: all.Facts, reads: all.Reads}
		causes := c.causes(all.World)
		if len(causes) > 0 {
			found.orders(all.World, c, causes)
		}
	}
	return found.outcomes.Rows(), found.clash
}

// orders goes through the orders of writes, with each cause that an order of
// the fences gives.
func (found *answer) orders(w play.World, c candidate, causes []rel.Relation) {
	orders := w.WriteOrders()
	for orders.Next() {
		places := orders.Places()
		behind := c.facts.Behind(places)
		misses := c.facts.Misses(c.reads, behind)
		if !c.mayStand(behind, misses) {
			continue
		}
		outcome := w.Outcome(places)
		for _, cause := range causes {
			if agrees(cause, behind, misses) {
				found.take(outcome, c, cause)
			}
		}
	}
}

// take takes a candidate that may be.
func (found *answer) take(outcome []int, c candidate, cause rel.Relation) {
	found.outcomes.Add(outcome)
	if !found.clash {
		found.clash = c.facts.Clashes(cause)
	}
}
