package target

import (
	"testing"

	"kernels/api"
	"kernels/play"
	"kernels/rel"
	"kernels/relate"
)

func event(kind, thread, order int) play.Event {
	return play.Event{Kind: kind, Thread: thread, Order: order, Scope: api.Device, Block: thread % 2}
}

func pairs(n int, list ...[2]int) rel.Relation {
	r := rel.New(n)
	for _, p := range list {
		r.Add(p[0], p[1])
	}
	return r
}

// wantRows asks for a relation, row by row.
func wantRows(t *testing.T, what string, r rel.Relation, rows ...string) {
	t.Helper()
	for a, row := range rows {
		for b := range row {
			if r.Has(a, b) != (row[b] == '1') {
				t.Errorf("P12: %s: from %d to %d: %v", what, a, b, r.Has(a, b))
			}
		}
	}
}

// TestBase: two threads, and a link from event 1 of the first to event 4 of
// the second.
func TestBase(t *testing.T) {
	var ahead [][2]int
	for _, thread := range [][]int{{0, 1, 2}, {3, 4, 5}, {6, 7}} {
		for i, a := range thread {
			for _, b := range thread[i+1:] {
				ahead = append(ahead, [2]int{a, b})
			}
		}
	}
	order := pairs(8, ahead...)
	wantRows(t, "no link", baseOf(order, pairs(8)), "00000000", "00000000", "00000000", "00000000", "00000000", "00000000", "00000000", "00000000")
	wantRows(t, "a link", baseOf(order, pairs(8, [2]int{1, 4})), "00001100", "00001100", "00000000", "00000000", "00000000", "00000000", "00000000", "00000000")
	wantRows(t, "two links", baseOf(order, pairs(8, [2]int{1, 4}, [2]int{4, 6})), "00001111", "00001111", "00000000", "00000011", "00000011", "00000000", "00000000", "00000000")
	wantRows(t, "two links that do not meet", baseOf(order, pairs(8, [2]int{1, 5}, [2]int{4, 6})), "00000100", "00000100", "00000000", "00000011", "00000011", "00000000", "00000000", "00000000")
	if !baseOf(order, pairs(8, [2]int{2, 3}, [2]int{5, 0})).Loops() {
		t.Error("P12: base of a circle does not lead back")
	}
}

func TestCause(t *testing.T) {
	facts := relate.FactsOf([]play.Event{
		event(play.Fence, 0, api.AcqRel), event(play.Write, 0, api.Relaxed), event(play.Read, 0, api.Weak),
		event(play.Read, 1, api.Relaxed), event(play.Write, 1, api.Release), event(play.Read, 2, api.Acquire), event(play.Read, 2, api.Weak)})
	c := candidate{facts: facts}
	links := pairs(7, [2]int{4, 5})
	wantRows(t, "what is seen", c.cause(pairs(7, [2]int{3, 1}), links), "0110000", "0010011", "0000000", "0000111", "0000011", "0000001", "0000000")
	wantRows(t, "what is not seen", c.cause(pairs(7), links), "0110000", "0010000", "0000000", "0000111", "0000011", "0000001", "0000000")
	wantRows(t, "seen, but told nothing", c.cause(pairs(7, [2]int{3, 1}), pairs(7)), "0110000", "0010000", "0000000", "0000100", "0000000", "0000001", "0000000")
}

func TestMayCause(t *testing.T) {
	for _, c := range []struct {
		what                 string
		cause, fences, reads [][2]int
		want                 bool
	}{
		{"nothing", nil, nil, nil, true},
		{"one of another", [][2]int{{0, 1}, {1, 2}}, nil, nil, true},
		{"two of each other", [][2]int{{0, 1}, {1, 0}}, nil, nil, true},
		{"its own", [][2]int{{0, 1}, {2, 2}}, nil, nil, false},
		{"a fence ahead in the order", [][2]int{{0, 1}}, [][2]int{{0, 1}}, nil, true},
		{"a fence behind in the order", [][2]int{{1, 0}}, [][2]int{{0, 1}}, nil, false},
		{"one of a fence between others", [][2]int{{2, 0}}, [][2]int{{0, 1}, {1, 2}}, nil, true},
		{"what a read reads", [][2]int{{0, 1}}, nil, [][2]int{{1, 0}}, true},
		{"a read of what it reads", [][2]int{{1, 0}}, nil, [][2]int{{1, 0}}, false},
		{"a read of what another reads", [][2]int{{1, 0}}, nil, [][2]int{{2, 0}}, true},
	} {
		cand := candidate{reads: pairs(3, c.reads...)}
		if got := cand.mayCause(pairs(3, c.cause...), pairs(3, c.fences...)); got != c.want {
			t.Errorf("P12: %s: %v, want %v", c.what, got, c.want)
		}
	}
}

func TestAgrees(t *testing.T) {
	for _, c := range []struct {
		what                  string
		cause, behind, misses [][2]int
		want                  bool
	}{
		{"nothing", nil, nil, nil, true},
		{"a write ahead", [][2]int{{0, 1}}, [][2]int{{0, 1}}, nil, true},
		{"a write behind", [][2]int{{1, 0}}, [][2]int{{0, 1}}, nil, false},
		{"what is not missed", [][2]int{{2, 1}}, nil, [][2]int{{0, 1}}, true},
		{"what is missed", [][2]int{{1, 0}}, nil, [][2]int{{0, 1}}, false},
		{"a read of what it misses", [][2]int{{0, 1}}, nil, [][2]int{{0, 1}}, true},
		{"over two steps", [][2]int{{2, 0}}, [][2]int{{0, 1}, {1, 2}}, nil, true},
	} {
		if got := agrees(pairs(3, c.cause...), pairs(3, c.behind...), pairs(3, c.misses...)); got != c.want {
			t.Errorf("P12: %s: %v, want %v", c.what, got, c.want)
		}
	}
}

// TestMayStand: event 0 is a write, 1 and 2 reads of another thread, 3 a
// write of a third.
func TestMayStand(t *testing.T) {
	for _, c := range []struct {
		what   string
		order  int // of event 0
		reads  [][2]int
		behind [][2]int
		want   bool
	}{
		{"forwards", api.Relaxed, [][2]int{{1, 0}, {2, 3}}, [][2]int{{0, 3}}, true},
		{"backwards", api.Relaxed, [][2]int{{1, 3}, {2, 0}}, [][2]int{{0, 3}}, false},
		{"backwards, not strong", api.Weak, [][2]int{{1, 0}, {2, 3}}, [][2]int{{3, 0}}, true},
	} {
		facts := relate.FactsOf([]play.Event{event(play.Write, 0, c.order), event(play.Read, 1, api.Relaxed), event(play.Read, 1, api.Relaxed), event(play.Write, 2, api.Relaxed)})
		cand := candidate{facts: facts, reads: pairs(4, c.reads...)}
		behind := pairs(4, c.behind...)
		if got := cand.mayStand(behind, facts.Misses(cand.reads, behind)); got != c.want {
			t.Errorf("P12: %s: %v, want %v", c.what, got, c.want)
		}
	}
}
