package relate

import (
	"kernels/play"
	"kernels/rel"
)

// Behind leads from each write to those behind it in the order of their
// variable; places tells where each stands.
func (f Facts) Behind(places []int) rel.Relation {
	behind := rel.New(len(f.Events))
	for i, a := range f.Events {
		for k, b := range f.Events {
			if i >= len(places) || k >= len(places) {
				continue
			}
			if a.Kind == play.Write && b.Kind == play.Write && a.Var == b.Var && places[i] < places[k] {
				behind.Add(i, k)
			}
		}
	}
	return behind
}

// FencesBehind leads from each sc fence to those behind it in their order that
// are strong to it; places tells where each stands.
func (f Facts) FencesBehind(places []int) rel.Relation {
	behind := rel.New(len(f.Events))
	for i, a := range places {
		for k, b := range places {
			if f.Fences.Has(i, k) && a < b {
				behind.Add(i, k)
			}
		}
	}
	return behind
}

// Misses leads from each read to the writes behind the one that it reads.
func (f Facts) Misses(reads rel.Relation, behind rel.Relation) rel.Relation {
	return reads.Then(behind)
}

// Communicates takes what is read, behind and missed.
func (f Facts) Communicates(reads rel.Relation, behind rel.Relation, misses rel.Relation) rel.Relation {
	return reads.Turned().Or(behind).Or(misses)
}

// SplitsStep tells whether a write stands in the order between what a step
// read and what it wrote.
func (f Facts) SplitsStep(misses rel.Relation, behind rel.Relation) bool {
	return f.halves.Then(misses).Then(behind).Loops()
}

// Clashes tells whether there is a clash, if before leads from each event to
// those that it is before.
func (f Facts) Clashes(before rel.Relation) bool {
	for i, a := range f.Events {
		for k, b := range f.Events {
			if f.mayClash(i, a, k, b) && !before.Has(i, k) && !before.Has(k, i) {
				return true
			}
		}
	}
	return false
}

// mayClash tells whether event i, which is a, and event k, which is b, clash
// unless one is before the other. Two events of one thread are strong to each
// other; a first write is before all events of threads, and two first writes
// are of two variables.
func (f Facts) mayClash(i int, a play.Event, k int, b play.Event) bool {
	if a.Kind != play.Write || i == k || f.Strong.Has(i, k) {
		return false
	}
	return a.Var == b.Var && b.IsAccess()
}
