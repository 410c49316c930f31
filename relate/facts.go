// Package relate: the relations among the events of a candidate (P5), and the
// rules that both models have.
package relate

import (
	"kernels/api"
	"kernels/play"
	"kernels/prog"
	"kernels/rel"
)

// Facts are the relations that hang on the events alone, whatever is read and
// in whatever order the writes stand.
type Facts struct {
	Events  []play.Event
	Ahead   rel.Relation
	Strong  rel.Relation
	Gathers rel.Relation
	Fences  rel.Relation // from each sc fence to those that are strong to it
	Rows    rel.Relation // ahead, of the reads and writes of one variable
	hangs   rel.Relation
	halves  rel.Relation // from a step's write to its read
	sends   rel.Relation // from what may tell to the write by which it would
	takes   rel.Relation // from a read to what may be told by it
}

// FactsOf takes the events of a world.
func FactsOf(events []play.Event) Facts {
	n := len(events)
	f := Facts{Events: make([]play.Event, n)}
	copy(f.Events, events)
	f.Ahead = rel.New(n)
	f.Strong = rel.New(n)
	f.Gathers = rel.New(n)
	f.Fences = rel.New(n)
	f.Rows = rel.New(n)
	f.hangs = rel.New(n)
	f.halves = rel.New(n)
	f.sends = rel.New(n)
	f.takes = rel.New(n)
	for i, a := range events {
		for k, b := range events {
			f.pair(i, a, k, b)
		}
	}
	return f
}

// pair adds what leads from event i, which is a, to event k, which is b.
func (f *Facts) pair(i int, a play.Event, k int, b play.Event) {
	ahead := isAhead(i, a, k, b)
	if ahead {
		f.Ahead.Add(i, k)
	}
	if ahead && a.IsAccess() && b.IsAccess() && a.Var == b.Var {
		f.Rows.Add(i, k)
	}
	if i != k && areStrong(a, b) {
		f.Strong.Add(i, k)
		if a.IsSC() && b.IsSC() {
			f.Fences.Add(i, k)
		}
	}
	if gather(a, b) {
		f.Gathers.Add(i, k)
	}
	if a.Hangs.Has(k) {
		f.hangs.Add(i, k)
	}
	if a.Kind == play.Write && a.Step && k == i-1 {
		f.halves.Add(i, k)
	}
	if (i == k && releases(a)) || (ahead && a.Kind == play.Fence && b.Kind == play.Write) {
		f.sends.Add(i, k)
	}
	if (i == k && acquires(a)) || (ahead && a.Kind == play.Read && b.Kind == play.Fence) {
		f.takes.Add(i, k)
	}
}

func isAhead(i int, a play.Event, k int, b play.Event) bool {
	if a.Thread == play.None {
		return b.Thread != play.None
	}
	return a.Thread == b.Thread && i < k
}

func areStrong(a play.Event, b play.Event) bool {
	if a.Thread == play.None || b.Thread == play.None {
		return false
	}
	if a.Thread == b.Thread {
		return true
	}
	if !isOrdered(a) || !isOrdered(b) {
		return false
	}
	return a.Block == b.Block || (a.Scope == api.Device && b.Scope == api.Device)
}

// isOrdered tells whether an event is neither weak nor of a barrier.
func isOrdered(e play.Event) bool {
	return e.Order != api.Weak && e.Kind != play.Arrival && e.Kind != play.Leaving
}

func gather(a play.Event, b play.Event) bool {
	return a.Kind == play.Arrival && b.Kind == play.Leaving && a.Block == b.Block && a.Bars == b.Bars
}

// releases tells whether a write tells by itself.
func releases(e play.Event) bool {
	return e.Kind == play.Write && prog.Releases(e.Order)
}

// acquires tells whether a read is told by itself.
func acquires(e play.Event) bool {
	return e.Kind == play.Read && prog.Acquires(e.Order)
}
