package source

import (
	"kernels/rel"
	"kernels/relate"
)

// candidate is a candidate but for the orders of its writes.
type candidate struct {
	facts  relate.Facts
	reads  rel.Relation
	before rel.Relation
}

// beforeOf leads from each event to those that it is before.
func beforeOf(facts relate.Facts, reads rel.Relation) rel.Relation {
	tells := facts.Tells(facts.Sees(reads))
	return facts.Ahead.Or(tells).Or(facts.Gathers).Closed()
}

// mayBe tells whether the candidate may be, with these places of the writes.
// That nothing in it hangs on itself is known.
func (c candidate) mayBe(places []int) bool {
	if c.before.Loops() {
		return false
	}
	behind := c.facts.Behind(places)
	misses := c.facts.Misses(c.reads, behind)
	if c.facts.SplitsStep(misses, behind) {
		return false
	}
	linked := c.facts.Communicates(c.reads, behind, misses).Closed()
	if c.before.Then(linked).Loops() {
		return false
	}
	return !c.fencesCircle(linked)
}

// fencesCircle tells whether there is a circle of sc fences.
func (c candidate) fencesCircle(linked rel.Relation) bool {
	over := c.before.Then(linked).Then(c.before)
	return c.before.Or(over).And(c.facts.Fences).Circles()
}
