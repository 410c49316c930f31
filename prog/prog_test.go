package prog

import (
	"testing"

	"kernels/api"
)

// thread makes a thread of statements of these kinds, the line of each
// counted from the thread's.
func thread(block, line int, kinds ...int) Thread {
	t := Thread{Block: block, Line: line}
	for i, k := range kinds {
		t.Stmts = append(t.Stmts, Stmt{Kind: k, Line: line + i + 1})
	}
	return t
}

func TestAllows(t *testing.T) {
	may := [End + 1][api.SC + 1]bool{
		Load:  {api.Weak: true, api.Relaxed: true, api.Acquire: true},
		Store: {api.Weak: true, api.Relaxed: true, api.Release: true},
		Add:   {api.Relaxed: true, api.Acquire: true, api.Release: true, api.AcqRel: true},
		Swap:  {api.Relaxed: true, api.Acquire: true, api.Release: true, api.AcqRel: true},
		Fence: {api.AcqRel: true, api.SC: true},
	}
	for kind := range may {
		for order := range may[kind] {
			if Allows(kind, order) != may[kind][order] {
				t.Errorf("P2: Allows(%d, %d) is not %v", kind, order, may[kind][order])
			}
		}
	}
	if Allows(-1, 0) || Allows(Load, -1) || Allows(Fence, 6) || Allows(99, 1) {
		t.Error("P2: an order of nothing is allowed")
	}
}

func TestWhatReaches(t *testing.T) {
	for kind := Load; kind <= End; kind++ {
		if IsAccess(kind) != (kind <= Swap) || IsAccess(kind) != (Reads(kind) || Writes(kind)) {
			t.Errorf("P2: kind %d", kind)
		}
		for v := range api.Vars {
			if (Stmt{Kind: kind, Var: 1}).Reaches(v) != (kind <= Swap && v == 1) {
				t.Errorf("P9: kind %d, variable %d", kind, v)
			}
		}
	}
}

func TestAcquiresAndReleases(t *testing.T) {
	for order := api.Weak; order <= api.SC; order++ {
		if Acquires(order) != (order == api.Acquire || order == api.AcqRel) || Releases(order) != (order == api.Release || order == api.AcqRel) {
			t.Errorf("P5: order %d", order)
		}
	}
}

func TestInnerBarrier(t *testing.T) {
	for _, c := range []struct {
		p    Program
		line int
	}{
		{Program{}, 0},
		{Program{[]Thread{thread(0, 1, Barrier, If, End, Barrier)}}, 0},
		{Program{[]Thread{thread(0, 1, If, Barrier, End)}}, 3},
		{Program{[]Thread{thread(0, 1, If, If, End, Barrier, End)}}, 5},
		{Program{[]Thread{thread(0, 1, Barrier), thread(1, 3, If, If, Barrier, Barrier, End, End)}}, 6},
	} {
		if line := c.p.InnerBarrier(); line != c.line {
			t.Errorf("P3: %v: line %d, want %d", c.p, line, c.line)
		}
	}
}

func TestUnevenBarriers(t *testing.T) {
	for _, c := range []struct {
		p    Program
		line int
	}{
		{Program{}, 0},
		{Program{[]Thread{thread(0, 1, Barrier, Barrier), thread(1, 4)}}, 0},
		{Program{[]Thread{thread(0, 1, Barrier, Barrier, Barrier)}}, 1},
		{Program{[]Thread{thread(1, 1), thread(0, 2, Barrier), thread(1, 4, Barrier)}}, 4},
		{Program{[]Thread{thread(0, 1, Barrier), thread(0, 3), thread(0, 4)}}, 3},
	} {
		if line := c.p.UnevenBarriers(); line != c.line {
			t.Errorf("P3: %v: line %d, want %d", c.p, line, c.line)
		}
	}
}

func TestOverLimit(t *testing.T) {
	fences := func(n, order int) Thread {
		var t Thread
		for range n {
			t.Stmts = append(t.Stmts, Stmt{Kind: Fence, Order: order})
		}
		return t
	}
	for _, c := range []struct {
		p    Program
		over bool
	}{
		{Program{}, false},
		{Program{[]Thread{thread(0, 1, Load, Load, Load, Load, Store, Store, Store)}}, false},
		{Program{[]Thread{thread(0, 1, Load, Load, Load, Load), thread(1, 6, Load)}}, true},
		{Program{[]Thread{thread(0, 1, Store, Store), thread(1, 4, Store, Store)}}, true},
		{Program{[]Thread{thread(0, 1, Add, Swap, Add, Load)}}, false},
		{Program{[]Thread{thread(0, 1, Add, Swap, Add, Store)}}, true},
		{Program{[]Thread{thread(0, 1, Add, Swap, Load, Load, Load)}}, true},
		{Program{[]Thread{fences(3, api.SC), fences(9, api.AcqRel)}}, false},
		{Program{[]Thread{fences(2, api.SC), fences(2, api.SC)}}, true},
	} {
		if over := c.p.OverLimit(); over != c.over {
			t.Errorf("P3: %v: %v, want %v", c.p, over, c.over)
		}
	}
}

func TestOverEvents(t *testing.T) {
	many := func(fences, barriers int) Thread {
		t := Thread{Stmts: []Stmt{{Kind: Load}, {Kind: If}, {Kind: End}}}
		for i := range fences {
			t.Stmts = append(t.Stmts, Stmt{Kind: Fence, Order: api.AcqRel + i%2})
		}
		for range barriers {
			t.Stmts = append(t.Stmts, Stmt{Kind: Barrier})
		}
		return t
	}
	for _, c := range []struct {
		p    Program
		over bool
	}{
		{Program{}, false},
		{Program{[]Thread{many(50, 0)}}, false},
		{Program{[]Thread{many(51, 0)}}, true},
		{Program{[]Thread{many(0, 25)}}, false},
		{Program{[]Thread{many(0, 26)}}, true},
		{Program{[]Thread{many(20, 2), many(22, 2)}}, false},
		{Program{[]Thread{many(20, 2), many(23, 2)}}, true},
	} {
		if over := c.p.OverEvents(); over != c.over {
			t.Errorf("P11: %d threads: %v, want %v", len(c.p.Threads), over, c.over)
		}
	}
}
