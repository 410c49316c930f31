// Package target: what may come out of instructions by the rules of the
// target.
package target

import (
	"kernels/play"
	"kernels/prog"
	"kernels/rel"
	"kernels/relate"
)

// answer is what was found so far.
type answer struct {
	outcomes play.Outcomes
	clash    bool
}

// Outcomes are the outcomes of all candidates that may be, each once, rising,
// and whether there is a clash in one of these candidates.
func Outcomes(p prog.Program) ([][]int, bool) {
	var found answer
	worlds := play.WorldsOf(p)
	for worlds.Next() {
		world := worlds.World()
		found.world(world)
	}
	return found.outcomes.Rows(), found.clash
}

// world goes through the candidates that have these events.
func (found *answer) world(w play.World) {
	facts := relate.FactsOf(w.Events)
	rows := rowsOf(facts)
	readings := w.Readings()
	for readings.Next() {
		reads := facts.Reads(readings.Reads())
		if facts.HangsOnItself(reads) {
			continue
		}
		c := candidate{facts: facts, rows: rows, reads: reads}
		causes := c.causes(w)
		if len(causes) > 0 {
			found.orders(w, c, causes)
		}
	}
}

// orders goes through the orders of writes, with each cause that an order of
// the fences gives.
func (found *answer) orders(w play.World, c candidate, causes []rel.Relation) {
	orders := w.WriteOrders()
	for orders.Next() {
		places := orders.Places()
		behind := c.facts.Behind(places)
		misses := c.facts.Misses(c.reads, behind)
		if !c.mayStand(behind, misses) {
			continue
		}
		outcome := w.Outcome(places)
		for _, cause := range causes {
			if agrees(cause, behind, misses) {
				found.take(outcome, c, cause)
			}
		}
	}
}

// take takes a candidate that may be.
func (found *answer) take(outcome []int, c candidate, cause rel.Relation) {
	found.outcomes.Add(outcome)
	if !found.clash {
		found.clash = c.facts.Clashes(cause)
	}
}
