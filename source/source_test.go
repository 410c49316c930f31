package source

import (
	"testing"

	"kernels/api"
	"kernels/play"
	"kernels/rel"
	"kernels/relate"
)

func event(kind, thread, order int) play.Event {
	return play.Event{Kind: kind, Thread: thread, Order: order, Scope: api.Device, Block: thread % 2}
}

func pairs(n int, list ...[2]int) rel.Relation {
	r := rel.New(n)
	for _, p := range list {
		r.Add(p[0], p[1])
	}
	return r
}

func TestBefore(t *testing.T) {
	facts := relate.FactsOf([]play.Event{
		event(play.Read, 0, api.Weak), event(play.Write, 0, api.Release), event(play.Read, 1, api.Acquire), event(play.Arrival, 1, 0),
		event(play.Leaving, 1, 0), event(play.Arrival, 3, 0), event(play.Leaving, 3, 0), event(play.Write, 3, api.Weak)})
	before := beforeOf(facts, pairs(8, [2]int{2, 1}))
	for a, row := range [8]string{"01111011", "00111011", "00011011", "00001011", "00000000", "00001011", "00000001", "00000000"} {
		for b := range row {
			if before.Has(a, b) != (row[b] == '1') {
				t.Errorf("P6: %d before %d: %v", a, b, before.Has(a, b))
			}
		}
	}
	if beforeOf(facts, pairs(8)).Has(0, 2) {
		t.Error("P6: before what reads nothing of it")
	}
}

// TestNothingBeforeItself: with events that do not communicate no other rule
// refuses this.
func TestNothingBeforeItself(t *testing.T) {
	facts := relate.FactsOf([]play.Event{event(play.Fence, 0, api.AcqRel), event(play.Fence, 1, api.AcqRel)})
	cand := candidate{facts: facts, reads: pairs(2), before: pairs(2, [2]int{0, 1})}
	if !cand.mayBe([]int{play.None, play.None}) {
		t.Error("P6: a fence before another may not be")
	}
	cand.before = pairs(2, [2]int{0, 1}, [2]int{1, 0}).Closed()
	if cand.mayBe([]int{play.None, play.None}) {
		t.Error("P6: a fence may be before itself")
	}
}

func TestFencesCircle(t *testing.T) {
	var l []play.Event
	for i := range 3 {
		l = append(l, event(play.Write, i, api.Relaxed), event(play.Fence, i, api.SC), event(play.Read, i, api.Relaxed))
	}
	for _, c := range []struct {
		what  string
		link  [][2]int
		extra [][2]int // before, beside ahead
		scope int      // of the last fence
		want  bool
	}{
		{"two reads that miss", [][2]int{{2, 3}, {5, 0}}, nil, api.Device, true},
		{"one read that misses", [][2]int{{2, 3}}, nil, api.Device, false},
		{"three reads that miss", [][2]int{{2, 3}, {5, 6}, {8, 0}}, nil, api.Device, true},
		{"three, one of which is not strong", [][2]int{{2, 3}, {5, 6}, {8, 0}}, nil, api.Block, false},
		{"one before the other", [][2]int{{5, 6}, {8, 0}}, [][2]int{{1, 4}}, api.Device, true},
		{"two ahead of the fences", [][2]int{{0, 3}, {5, 0}}, nil, api.Device, false},
		{"two behind the fences", [][2]int{{2, 5}, {5, 0}}, nil, api.Device, false},
	} {
		l[7].Scope = c.scope
		facts := relate.FactsOf(l)
		cand := candidate{facts: facts, before: facts.Ahead.Or(pairs(9, c.extra...))}
		if got := cand.fencesCircle(pairs(9, c.link...)); got != c.want {
			t.Errorf("P6: %s: circle %v, want %v", c.what, got, c.want)
		}
	}
	l[1].Order = api.AcqRel
	facts := relate.FactsOf(l)
	cand := candidate{facts: facts, before: facts.Ahead}
	if cand.fencesCircle(pairs(9, [2]int{2, 3}, [2]int{5, 0})) {
		t.Error("P6: a circle of a fence that is not sc")
	}
}
