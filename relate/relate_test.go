package relate

import (
	"slices"
	"testing"

	"kernels/api"
	"kernels/play"
	"kernels/prog"
	"kernels/rel"
)

// Events of short names, all of variable x unless y is set.
func first(v int) play.Event { return play.Event{Kind: play.Write, Thread: play.None, Var: v} }

func event(kind, thread, block, order, scope int) play.Event {
	return play.Event{Kind: kind, Thread: thread, Block: block, Order: order, Scope: scope}
}

func half(e play.Event) play.Event {
	e.Step = true
	return e
}

func at(v int, e play.Event) play.Event {
	e.Var = v
	return e
}

// events lays them behind the first writes: the first of them has number 3.
func events(l ...play.Event) []play.Event {
	return append([]play.Event{first(0), first(1), first(2)}, l...)
}

// wantPairs asks for just these pairs.
func wantPairs(t *testing.T, what string, r rel.Relation, n int, pairs ...[2]int) {
	t.Helper()
	for a := range n {
		for b := range n {
			if want := slices.Contains(pairs, [2]int{a, b}); r.Has(a, b) != want {
				t.Errorf("%s: from %d to %d: %v, want %v", what, a, b, r.Has(a, b), want)
			}
		}
	}
}

// reading is what reads makes of pairs of a read and a write.
func reading(f Facts, pairs ...[2]int) rel.Relation {
	reads := make([]int, len(f.Events))
	for i := range reads {
		reads[i] = play.None
	}
	for _, p := range pairs {
		reads[p[0]] = p[1]
	}
	return f.reads(reads)
}

func TestAhead(t *testing.T) {
	f := FactsOf(events(event(play.Read, 0, 0, api.Weak, 0), event(play.Fence, 0, 0, api.SC, 0), event(play.Arrival, 0, 0, 0, 0), event(play.Write, 1, 0, api.Weak, 0)))
	wantPairs(t, "P5: ahead", f.Ahead, 7, [][2]int{
		{0, 3}, {0, 4}, {0, 5}, {0, 6}, {1, 3}, {1, 4}, {1, 5}, {1, 6}, {2, 3}, {2, 4}, {2, 5}, {2, 6},
		{3, 4}, {3, 5}, {4, 5}}...)
}

func TestRows(t *testing.T) {
	ld := event(play.Read, 0, 0, api.Weak, 0)
	st := event(play.Write, 0, 0, api.Release, 0)
	f := FactsOf(events(ld, event(play.Fence, 0, 0, api.SC, 0), at(1, st), event(play.Arrival, 0, 0, 0, 0), st, event(play.Read, 1, 1, api.Weak, 0)))
	wantPairs(t, "P12: ahead, of one variable", f.Rows, 9, [][2]int{{0, 3}, {0, 7}, {0, 8}, {1, 5}, {3, 7}}...)
}

func TestStrong(t *testing.T) {
	const r, w, fence, arrival, leaving = play.Read, play.Write, play.Fence, play.Arrival, play.Leaving
	const block, device = api.Block, api.Device
	for _, c := range []struct {
		a, b play.Event
		want bool
	}{
		{event(r, 0, 0, api.Weak, 0), event(w, 0, 0, api.Weak, 0), true},
		{event(arrival, 0, 0, 0, 0), event(w, 0, 0, api.Weak, 0), true},
		{event(r, 0, 0, api.Weak, 0), event(w, 1, 0, api.Relaxed, device), false},
		{event(r, 0, 0, api.Weak, 0), event(w, 1, 0, api.Weak, 0), false},
		{event(r, 0, 0, api.Relaxed, block), event(w, 1, 0, api.Relaxed, block), true},
		{event(r, 0, 1, api.Acquire, block), event(w, 1, 1, api.Release, device), true},
		{event(r, 0, 0, api.Acquire, block), event(w, 1, 1, api.Release, block), false},
		{event(r, 0, 0, api.Acquire, device), event(w, 1, 1, api.Release, block), false},
		{event(r, 0, 0, api.Acquire, device), event(w, 1, 1, api.Release, device), true},
		{event(r, 0, 0, api.Relaxed, device), event(r, 1, 1, api.Relaxed, device), true},
		{event(fence, 0, 0, api.SC, device), event(fence, 1, 1, api.AcqRel, device), true},
		{event(fence, 0, 0, api.SC, device), event(fence, 1, 1, api.SC, block), false},
		{event(fence, 0, 0, api.AcqRel, block), event(fence, 1, 0, api.SC, block), true},
		{event(fence, 0, 0, api.AcqRel, block), event(w, 1, 0, api.Weak, 0), false},
		{event(arrival, 0, 0, 0, 0), event(leaving, 1, 0, 0, 0), false},
		{event(arrival, 0, 0, 0, 0), event(fence, 1, 0, api.SC, device), false},
		{event(fence, 0, 0, api.SC, device), event(leaving, 1, 0, 0, 0), false},
		{first(0), event(r, 0, 0, api.Relaxed, device), false},
		{first(0), first(1), false},
	} {
		if areStrong(c.a, c.b) != c.want || areStrong(c.b, c.a) != c.want {
			t.Errorf("P5: %+v and %+v: strong %v, want %v", c.a, c.b, areStrong(c.a, c.b), c.want)
		}
		f := FactsOf([]play.Event{c.a, c.b})
		wanted := [][2]int{}
		if c.want {
			wanted = [][2]int{{0, 1}, {1, 0}}
		}
		wantPairs(t, "P5: strong", f.Strong, 2, wanted...)
	}
}

func TestGathers(t *testing.T) {
	bar := func(thread, block, bars int) []play.Event {
		a := play.Event{Kind: play.Arrival, Thread: thread, Block: block, Bars: bars}
		b := a
		b.Kind = play.Leaving
		return []play.Event{a, b}
	}
	all := slices.Concat(bar(0, 0, 0), bar(0, 0, 1), bar(1, 0, 0), bar(1, 0, 1), bar(2, 1, 0), bar(3, 1, 0))
	wantPairs(t, "P5: gathers", FactsOf(all).Gathers, len(all), [][2]int{
		{0, 1}, {0, 5}, {4, 1}, {4, 5}, {2, 3}, {2, 7}, {6, 3}, {6, 7}, {8, 9}, {8, 11}, {10, 9}, {10, 11}}...)
}

func TestHangsOnItself(t *testing.T) {
	hanging := func(on int, e play.Event) play.Event {
		e.Hangs = rel.One(on)
		return e
	}
	ld := event(play.Read, 0, 0, api.Relaxed, 0)
	st := event(play.Write, 0, 0, api.Relaxed, 0)
	for _, c := range []struct {
		l     []play.Event
		reads [][2]int
		want  bool
	}{
		{events(ld, st, ld, st), [][2]int{{3, 6}, {5, 4}}, false},
		{events(ld, hanging(3, st), ld, st), [][2]int{{3, 6}, {5, 4}}, false},
		{events(ld, hanging(3, st), ld, hanging(5, st)), [][2]int{{3, 6}, {5, 4}}, true},
		{events(ld, hanging(3, st), ld, hanging(5, st)), [][2]int{{3, 0}, {5, 4}}, false},
		{events(ld, hanging(3, st)), [][2]int{{3, 4}}, true},
		{events(ld, hanging(3, ld), hanging(4, st)), [][2]int{{3, 5}, {4, 0}}, true},
	} {
		f := FactsOf(c.l)
		if got := f.hangsOnItself(reading(f, c.reads...)); got != c.want {
			t.Errorf("P5: %+v reading %v: hangs on itself %v, want %v", c.l, c.reads, got, c.want)
		}
	}
}

func TestSees(t *testing.T) {
	d := api.Device
	st := event(play.Write, 0, 0, api.Relaxed, d)
	ld := event(play.Read, 3, 1, api.Relaxed, d)
	stepR := func(thread, block, scope int) play.Event {
		return half(event(play.Read, thread, block, api.Relaxed, scope))
	}
	stepW := func(thread, block, scope int) play.Event {
		return half(event(play.Write, thread, block, api.Relaxed, scope))
	}
	for _, c := range []struct {
		what  string
		l     []play.Event
		reads [][2]int
		want  [][2]int
	}{
		{"straight", events(st, ld), [][2]int{{4, 3}}, [][2]int{{4, 3}}},
		{"a first write", events(st, ld), [][2]int{{4, 0}}, nil},
		{"a weak write of another thread", events(event(play.Write, 0, 0, api.Weak, 0), ld), [][2]int{{4, 3}}, nil},
		{"a weak write of the thread", events(event(play.Write, 0, 0, api.Weak, 0), event(play.Read, 0, 0, api.Weak, 0)), [][2]int{{4, 3}}, [][2]int{{4, 3}}},
		{"over a step", events(st, stepR(1, 1, d), stepW(1, 1, d), ld), [][2]int{{4, 3}, {6, 5}}, [][2]int{{4, 3}, {6, 5}, {6, 3}}},
		{"over two steps", events(st, stepR(1, 1, d), stepW(1, 1, d), stepR(2, 0, d), stepW(2, 0, d), ld), [][2]int{{4, 3}, {6, 5}, {8, 7}}, [][2]int{{4, 3}, {6, 5}, {6, 3}, {8, 7}, {8, 5}, {8, 3}}},
		{"over a step that sees nothing", events(st, stepR(1, 1, 0), stepW(1, 1, 0), ld), [][2]int{{4, 3}, {6, 5}}, [][2]int{{6, 5}}},
		{"over a step that is not seen", events(st, stepR(1, 0, 0), stepW(1, 0, 0), ld), [][2]int{{4, 3}, {6, 5}}, [][2]int{{4, 3}}},
		{"over a load and a store", events(st, event(play.Read, 1, 1, api.Relaxed, d), event(play.Write, 1, 1, api.Relaxed, d), ld), [][2]int{{4, 3}, {6, 5}}, [][2]int{{4, 3}, {6, 5}}},
		{"two steps in a circle", events(stepR(1, 1, d), stepW(1, 1, d), stepR(2, 0, d), stepW(2, 0, d)), [][2]int{{3, 6}, {5, 4}}, [][2]int{{3, 6}, {3, 4}, {5, 4}, {5, 6}}},
	} {
		f := FactsOf(c.l)
		wantPairs(t, "P5: sees "+c.what, f.Sees(reading(f, c.reads...)), len(c.l), c.want...)
	}
}

func TestTells(t *testing.T) {
	const weak, rlx, acq, rls, both, sc = api.Weak, api.Relaxed, api.Acquire, api.Release, api.AcqRel, api.SC
	// The numbers are 3 fence0, 4 write, 5 other0 of thread 0; 6 other1,
	// 7 read, 8 fence1 of thread 1.
	for _, c := range []struct {
		what           string
		write, read    play.Event
		fence0, fence1 play.Event
		other0, other1 play.Event
		want           [][2]int
	}{
		{what: "release, acquire", write: event(play.Write, 0, 0, rls, 1), read: event(play.Read, 1, 1, acq, 1), want: [][2]int{{4, 7}}},
		{what: "acqrel, acqrel", write: event(play.Write, 0, 0, both, 1), read: event(play.Read, 1, 1, both, 1), want: [][2]int{{4, 7}}},
		{what: "relaxed, acquire", write: event(play.Write, 0, 0, rlx, 1), read: event(play.Read, 1, 1, acq, 1)},
		{what: "release, relaxed", write: event(play.Write, 0, 0, rls, 1), read: event(play.Read, 1, 1, rlx, 1)},
		{what: "a step's acquire as a write", write: event(play.Write, 0, 0, acq, 1), read: event(play.Read, 1, 1, acq, 1)},
		{what: "a step's release as a read", write: event(play.Write, 0, 0, rls, 1), read: event(play.Read, 1, 1, rls, 1)},
		{what: "scope block of two blocks", write: event(play.Write, 0, 0, rls, 0), read: event(play.Read, 1, 1, acq, 1)},
		{what: "scope block of one block", write: event(play.Write, 0, 1, rls, 0), read: event(play.Read, 1, 1, acq, 0), want: [][2]int{{4, 7}}},
		{what: "two fences", write: event(play.Write, 0, 0, rlx, 1), read: event(play.Read, 1, 1, rlx, 1),
			fence0: event(play.Fence, 0, 0, both, 1), fence1: event(play.Fence, 1, 1, both, 1), want: [][2]int{{3, 8}}},
		{what: "two sc fences", write: event(play.Write, 0, 0, rlx, 1), read: event(play.Read, 1, 1, rlx, 1),
			fence0: event(play.Fence, 0, 0, sc, 1), fence1: event(play.Fence, 1, 1, sc, 1), want: [][2]int{{3, 8}}},
		{what: "a fence and acquire", write: event(play.Write, 0, 0, rlx, 1), read: event(play.Read, 1, 1, acq, 1),
			fence0: event(play.Fence, 0, 0, sc, 1), want: [][2]int{{3, 7}}},
		{what: "release and a fence", write: event(play.Write, 0, 0, rls, 1), read: event(play.Read, 1, 1, rlx, 1),
			fence1: event(play.Fence, 1, 1, both, 1), want: [][2]int{{4, 8}}},
		{what: "all of it", write: event(play.Write, 0, 0, rls, 1), read: event(play.Read, 1, 1, acq, 1),
			fence0: event(play.Fence, 0, 0, sc, 1), fence1: event(play.Fence, 1, 1, both, 1), want: [][2]int{{3, 7}, {3, 8}, {4, 7}, {4, 8}}},
		{what: "a fence of scope block", write: event(play.Write, 0, 0, rlx, 1), read: event(play.Read, 1, 1, rlx, 1),
			fence0: event(play.Fence, 0, 0, both, 0), fence1: event(play.Fence, 1, 1, both, 1)},
		{what: "fences on the wrong side", write: event(play.Write, 0, 0, rlx, 1), read: event(play.Read, 1, 1, rlx, 1),
			other0: event(play.Fence, 0, 0, both, 1), other1: event(play.Fence, 1, 1, both, 1)},
		{what: "a weak write", write: event(play.Write, 0, 0, weak, 0), read: event(play.Read, 1, 0, rlx, 1),
			fence0: event(play.Fence, 0, 0, both, 1), fence1: event(play.Fence, 1, 0, both, 1)},
		{what: "a weak read", write: event(play.Write, 0, 0, rlx, 0), read: event(play.Read, 1, 0, weak, 0),
			fence0: event(play.Fence, 0, 0, both, 1), fence1: event(play.Fence, 1, 0, both, 1)},
	} {
		blank := func(e, like play.Event) play.Event {
			if e == (play.Event{}) {
				return event(play.Arrival, like.Thread, like.Block, 0, 0)
			}
			return e
		}
		l := events(blank(c.fence0, c.write), c.write, blank(c.other0, c.write), blank(c.other1, c.read), c.read, blank(c.fence1, c.read))
		f := FactsOf(l)
		wantPairs(t, "P5: tells, "+c.what, f.Tells(f.Sees(reading(f, [2]int{7, 4}))), len(l), c.want...)
		wantPairs(t, "P5: tells without reading, "+c.what, f.Tells(f.Sees(reading(f, [2]int{7, 0}))), len(l))
	}
}

// TestTellsInAThread: a weak read sees a write of its own thread, but is told
// nothing by it.
func TestTellsInAThread(t *testing.T) {
	for _, c := range []struct {
		write, read int
		want        [][2]int
	}{
		{api.Relaxed, api.Relaxed, [][2]int{{3, 6}}},
		{api.Weak, api.Relaxed, nil},
		{api.Relaxed, api.Weak, nil},
		{api.Weak, api.Weak, nil},
	} {
		f := FactsOf(events(event(play.Fence, 0, 0, api.SC, 0), event(play.Write, 0, 0, c.write, 0), event(play.Read, 0, 0, c.read, 0), event(play.Fence, 0, 0, api.SC, 0)))
		sees := f.Sees(reading(f, [2]int{5, 4}))
		wantPairs(t, "P5: sees in a thread", sees, 7, [2]int{5, 4})
		wantPairs(t, "P5: tells in a thread", f.Tells(sees), 7, c.want...)
	}
}

func TestOrderOfWrites(t *testing.T) {
	st := event(play.Write, 0, 0, api.Weak, 0)
	ld := event(play.Read, 1, 0, api.Weak, 0)
	l := events(st, st, at(1, st), ld, at(1, ld))
	f := FactsOf(l)
	behind := f.Behind([]int{0, 0, 0, 2, 1, 1, play.None, play.None})
	wantPairs(t, "P4: behind", behind, 8, [][2]int{{0, 3}, {0, 4}, {4, 3}, {1, 5}}...)
	for _, c := range []struct {
		x, y                int
		misses, communicate [][2]int
	}{
		{0, 5, [][2]int{{6, 3}, {6, 4}}, [][2]int{{0, 6}, {5, 7}}},
		{4, 1, [][2]int{{6, 3}, {7, 5}}, [][2]int{{4, 6}, {1, 7}}},
		{3, 5, nil, [][2]int{{3, 6}, {5, 7}}},
	} {
		reads := reading(f, [2]int{6, c.x}, [2]int{7, c.y})
		misses := f.Misses(reads, behind)
		wantPairs(t, "P5: misses", misses, 8, c.misses...)
		all := append(append(c.communicate, c.misses...), [][2]int{{0, 3}, {0, 4}, {4, 3}, {1, 5}}...)
		wantPairs(t, "P5: communicates", f.Communicates(reads, behind, misses), 8, all...)
	}
}

func TestOrderOfFences(t *testing.T) {
	sc := func(thread, scope int) play.Event { return event(play.Fence, thread, thread%2, api.SC, scope) }
	f := FactsOf(events(sc(0, 1), sc(0, 0), sc(1, 1), sc(2, 0), event(play.Fence, 1, 1, api.AcqRel, 1)))
	strong := [][2]int{{3, 4}, {4, 3}, {3, 5}, {5, 3}, {3, 6}, {6, 3}, {4, 6}, {6, 4}}
	wantPairs(t, "P5: sc fences that are strong to each other", f.Fences, 8, strong...)
	none := play.None
	wantPairs(t, "P12: in the order of events", f.FencesBehind([]int{none, none, none, 0, 1, 2, 3, none}), 8, [][2]int{{3, 4}, {3, 5}, {3, 6}, {4, 6}}...)
	wantPairs(t, "P12: in another order", f.FencesBehind([]int{none, none, none, 2, 3, 0, 1, none}), 8, [][2]int{{3, 4}, {5, 3}, {6, 3}, {6, 4}}...)
	wantPairs(t, "P12: of no places", f.FencesBehind(nil), 8)
}

func TestSplitsStep(t *testing.T) {
	l := events(half(event(play.Read, 0, 0, api.Relaxed, 0)), half(event(play.Write, 0, 0, api.Relaxed, 0)), event(play.Write, 1, 1, api.Weak, 0), event(play.Read, 1, 1, api.Weak, 0), event(play.Write, 1, 1, api.Weak, 0))
	f := FactsOf(l)
	for _, c := range []struct {
		reads  int
		places []int
		want   bool
	}{
		{0, []int{0, 0, 0, play.None, 1, 2, play.None, 3}, false},
		{0, []int{0, 0, 0, play.None, 2, 1, play.None, 3}, true},
		{5, []int{0, 0, 0, play.None, 2, 1, play.None, 3}, false},
		{5, []int{0, 0, 0, play.None, 3, 1, play.None, 2}, true},
		{0, []int{0, 0, 0, play.None, 3, 1, play.None, 2}, true},
		{5, []int{0, 0, 0, play.None, 1, 2, play.None, 3}, false},
	} {
		behind := f.Behind(c.places)
		// Event 6 is a read of no step: whatever stands behind what it reads
		// splits nothing.
		misses := f.Misses(reading(f, [2]int{3, c.reads}, [2]int{6, 0}), behind)
		if got := f.SplitsStep(misses, behind); got != c.want {
			t.Errorf("P6: a step that reads %d, places %v: split %v, want %v", c.reads, c.places, got, c.want)
		}
	}
}

func TestClashes(t *testing.T) {
	ld := event(play.Read, 1, 1, api.Weak, 0)
	st := event(play.Write, 0, 0, api.Weak, 0)
	for _, c := range []struct {
		what   string
		a, b   play.Event
		before [][2]int
		want   bool
	}{
		{"a write and a read", st, ld, nil, true},
		{"a read and a write", event(play.Read, 0, 0, api.Weak, 0), event(play.Write, 1, 1, api.Weak, 0), nil, true},
		{"two writes", st, event(play.Write, 1, 1, api.Relaxed, 1), nil, true},
		{"two reads", event(play.Read, 0, 0, api.Weak, 0), ld, nil, false},
		{"two variables", at(1, st), ld, nil, false},
		{"the one before the other", st, ld, [][2]int{{3, 4}}, false},
		{"the other before the one", st, ld, [][2]int{{4, 3}}, false},
		{"strong ones", event(play.Write, 0, 0, api.Relaxed, 1), event(play.Read, 1, 1, api.Relaxed, 1), nil, false},
		{"of scope block, of one block", event(play.Write, 0, 0, api.Relaxed, 0), event(play.Read, 1, 0, api.Relaxed, 0), nil, false},
		{"of scope block, of two blocks", event(play.Write, 0, 0, api.Relaxed, 0), event(play.Read, 1, 1, api.Relaxed, 0), nil, true},
		{"of one thread", st, event(play.Read, 0, 0, api.Weak, 0), nil, false},
		{"a fence", st, event(play.Fence, 1, 1, api.SC, 0), nil, false},
		{"an arrival", st, event(play.Arrival, 1, 1, 0, 0), nil, false},
	} {
		f := FactsOf(events(c.a, c.b))
		before := f.Ahead.Or(rel.New(5))
		for _, p := range c.before {
			before.Add(p[0], p[1])
		}
		if got := f.Clashes(before); got != c.want {
			t.Errorf("P6: %s: clash %v, want %v", c.what, got, c.want)
		}
	}
}

// TestCandidates: each candidate comes once, but none in which something hangs
// on itself. The threads hand on to each other what they read.
func TestCandidates(t *testing.T) {
	r0 := prog.Operand{IsReg: true}
	hand := func(from, to, add int) prog.Thread {
		return prog.Thread{Stmts: []prog.Stmt{
			{Kind: prog.Load, Var: from, Order: api.Relaxed, Scope: api.Device},
			{Kind: prog.Plus, Dest: 1, A: r0, B: prog.Operand{N: add}},
			{Kind: prog.Store, Var: to, A: prog.Operand{IsReg: true, N: 1}, Order: api.Relaxed, Scope: api.Device},
		}}
	}
	for _, c := range []struct {
		p    prog.Program
		want []string // the registers at the end
	}{
		{prog.Program{}, []string{""}},
		{prog.Program{Threads: []prog.Thread{{}, {}}}, []string{"00000000"}},
		{prog.Program{Threads: []prog.Thread{hand(0, 1, 1)}}, []string{"0100"}},
		{prog.Program{Threads: []prog.Thread{hand(0, 1, 1), hand(1, 2, 1)}}, []string{"01000100", "01001200"}},
		// Without that rule both could also read what the other wrote.
		{prog.Program{Threads: []prog.Thread{hand(0, 1, 0), hand(1, 0, 0)}}, []string{"00000000", "00000000", "00000000"}},
		{prog.Program{Threads: []prog.Thread{hand(0, 1, 0), hand(1, 0, 1)}}, []string{"00000100", "00000100", "11000100"}},
	} {
		var got []string
		all := CandidatesOf(c.p)
		for all.Next() {
			s := ""
			for _, n := range all.World.Regs {
				s += string("0123"[n])
			}
			got = append(got, s)
			if len(all.Facts.Events) != len(all.World.Events) {
				t.Errorf("P4: facts of %d events, %d there are", len(all.Facts.Events), len(all.World.Events))
			}
			for i, e := range all.World.Events {
				if (all.Reads.Of(i) != 0) != (e.Kind == play.Read) {
					t.Errorf("P4: event %d, of kind %d, reads %b", i, e.Kind, all.Reads.Of(i))
				}
			}
		}
		slices.Sort(got)
		if !slices.Equal(got, c.want) {
			t.Errorf("P4: %v: %v, want %v", c.p, got, c.want)
		}
	}
}
