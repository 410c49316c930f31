package target

import (
	"kernels/play"
	"kernels/rel"
	"kernels/relate"
)

// candidate is a candidate but for the orders of its fences and writes.
type candidate struct {
	facts relate.Facts
	reads rel.Relation
}

// causes are what 'cause' is by each order of the fences that may be, as far
// as the orders of writes are not asked: it does not hang on those.
func (c candidate) causes(w play.World) []rel.Relation {
	var all []rel.Relation
	sees := c.facts.Sees(c.reads)
	links := c.facts.Tells(sees).Or(c.facts.Gathers)
	orders := w.FenceOrders()
	for orders.Next() {
		fences := c.facts.FencesBehind(orders.Places())
		cause := c.cause(sees, links.Or(fences))
		if c.mayCause(cause, fences) {
			all = append(all, cause)
		}
	}
	return all
}

// cause takes what a read sees, and the links that base is made of.
func (c candidate) cause(sees rel.Relation, links rel.Relation) rel.Relation {
	base := baseOf(c.facts.Ahead, links)
	return base.Or(c.facts.Ahead).Or(sees.Turned().Then(base))
}

// baseOf leads along the links, each with what is ahead of where it begins
// and behind where it ends.
func baseOf(ahead rel.Relation, links rel.Relation) rel.Relation {
	on := links.Or(links.Then(ahead))
	return on.Or(ahead.Then(on)).Closed()
}

// mayCause tells whether no rule that asks for no order of writes bars the
// candidate; fences leads to those behind in the order of fences.
func (c candidate) mayCause(cause rel.Relation, fences rel.Relation) bool {
	if cause.Loops() || fences.Then(cause).Loops() {
		return false
	}
	return !c.reads.And(cause).Leads()
}

// mayStand tells whether no rule that asks for no cause bars the candidate.
func (c candidate) mayStand(behind rel.Relation, misses rel.Relation) bool {
	if c.facts.SplitsStep(misses, behind) {
		return false
	}
	linked := c.facts.Communicates(c.reads, behind, misses)
	return !c.facts.Rows.Or(linked.And(c.facts.Strong)).Circles()
}

// agrees tells whether no write stands behind one that it is a cause of, and
// no read misses a cause of it.
func agrees(cause rel.Relation, behind rel.Relation, misses rel.Relation) bool {
	return !behind.Or(misses).Then(cause).Loops()
}
