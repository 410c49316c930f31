// Package play carries programs out: it goes through all candidates (P4) and
// gathers what comes out of those that may be.
package play

import (
	"kernels/api"
	"kernels/rel"
)

// The kinds of events.
const (
	Read    = 0
	Write   = 1
	Fence   = 2
	Arrival = 3
	Leaving = 4
)

// None is the thread of a first write, the write that what is no read reads,
// and the place in an order of what does not stand in it.
const None = -1

// Event is one event; what its kind has no use for stays 0.
type Event struct {
	Kind   int
	Thread int
	Block  int
	Var    int
	Value  int
	Order  int
	Scope  int
	Bars   int     // of an arrival or a leaving: how many barriers are ahead of it in its thread
	Step   bool    // it is half of a step: the read stands just ahead of the write
	Hangs  rel.Set // the reads that it hangs on
}

// IsAccess tells whether the event is a read or a write.
func (e Event) IsAccess() bool {
	return e.Kind == Read || e.Kind == Write
}

// IsSC tells whether the event is an sc fence.
func (e Event) IsSC() bool {
	return e.Kind == Fence && e.Order == api.SC
}

// firstWrites are numbered as the variables are.
func firstWrites() []Event {
	events := make([]Event, api.Vars)
	for v := range events {
		events[v] = Event{Kind: Write, Thread: None, Var: v}
	}
	return events
}
