package ways

import (
	"reflect"
	"testing"

	"kernels/api"
	"kernels/prog"
)

func load(v, order, scope int) prog.Stmt {
	return prog.Stmt{Kind: prog.Load, Var: v, Order: order, Scope: scope}
}

func store(v, order, scope int) prog.Stmt {
	return prog.Stmt{Kind: prog.Store, Var: v, Order: order, Scope: scope}
}

func step(v, order, scope int) prog.Stmt {
	return prog.Stmt{Kind: prog.Add, Var: v, Order: order, Scope: scope}
}

func fence(order, scope int) prog.Stmt {
	return prog.Stmt{Kind: prog.Fence, Order: order, Scope: scope}
}

func plain(kind int) prog.Stmt { return prog.Stmt{Kind: kind} }

func threads(all ...prog.Thread) prog.Program { return prog.Program{Threads: all} }

func in(block int, stmts ...prog.Stmt) prog.Thread {
	return prog.Thread{Block: block, Stmts: stmts}
}

// same compares what is written of two programs.
func same(a, b prog.Program) bool {
	if len(a.Threads) != len(b.Threads) {
		return false
	}
	for i := range a.Threads {
		x, y := a.Threads[i], b.Threads[i]
		if x.Block != y.Block || len(x.Stmts) != len(y.Stmts) || len(x.Stmts) > 0 && !reflect.DeepEqual(x.Stmts, y.Stmts) {
			return false
		}
	}
	return true
}

func wantList(t *testing.T, promise string, got []prog.Stmt, want ...prog.Stmt) {
	t.Helper()
	wantSame(t, promise, threads(in(0, got...)), threads(in(0, want...)))
}

func wantSame(t *testing.T, promise string, got, want prog.Program) {
	t.Helper()
	if !same(got, want) {
		t.Errorf("%s: %v, want %v", promise, got, want)
	}
}

func TestBothReach(t *testing.T) {
	p := threads(in(0, load(0, api.Weak, 0), plain(prog.Move)), in(1, store(1, api.Weak, 0), step(2, api.Relaxed, 0)), in(0, plain(prog.If), step(1, api.Relaxed, 0), plain(prog.End)))
	for v, both := range []bool{false, true, false, false} {
		if bothReach(p, v) != both {
			t.Errorf("P9: variable %d: not %v", v, both)
		}
	}
	if bothReach(prog.Program{}, 0) {
		t.Error("P9: of no thread")
	}
}

func TestNarrowed(t *testing.T) {
	d := api.Device
	one := threads(in(1, load(0, api.Acquire, d), fence(api.SC, d), plain(prog.Barrier)), in(1, store(0, api.Relaxed, d)))
	wantList(t, "P10.1", narrowed(one, one.Threads[0].Stmts), load(0, api.Acquire, 0), fence(api.SC, 0), plain(prog.Barrier))
	both := threads(in(0, load(0, api.Acquire, d), load(1, api.Acquire, d), fence(api.SC, d)), in(1, store(0, api.Relaxed, d)))
	wantList(t, "P10.1", narrowed(both, both.Threads[0].Stmts), load(0, api.Acquire, d), load(1, api.Acquire, 0), fence(api.SC, d))
	wantList(t, "P10.1", narrowed(both, both.Threads[1].Stmts), store(0, api.Relaxed, d))
	wantList(t, "P10.1", narrowed(prog.Program{}, nil))
}

func TestIdleBetweenBarriers(t *testing.T) {
	b := plain(prog.Barrier)
	m := plain(prog.Move)
	w := store(0, api.Weak, 0)
	idle := threads(in(0, w, b, m, b, w), in(1, b, w, b), in(0, b, b))
	if !idleBetweenBarriers(idle, 0) || idleBetweenBarriers(idle, 1) {
		t.Error("P10.2: of one block")
	}
	if idleBetweenBarriers(threads(in(0, b, b), in(0, b, w, b)), 0) || idleBetweenBarriers(threads(in(0, b, w, b), in(0, b, b)), 0) {
		t.Error("P10.2: of one thread of two")
	}
}

func TestWithoutSecondBarrier(t *testing.T) {
	b := plain(prog.Barrier)
	m := plain(prog.Move)
	e := plain(prog.Equal)
	wantList(t, "P10.2", withoutSecondBarrier([]prog.Stmt{m, b, e, b, m}), m, b, e, m)
	wantList(t, "P10.2", withoutSecondBarrier([]prog.Stmt{m, b, e}), m, b, e)
	wantList(t, "P10.2", withoutSecondBarrier(nil))
}

func TestOfRegisters(t *testing.T) {
	for kind := prog.Load; kind <= prog.End; kind++ {
		if ofRegisters(kind) != (kind >= prog.Move) {
			t.Errorf("P10.2: kind %d", kind)
		}
	}
}

func TestWithoutCoveredFences(t *testing.T) {
	weak := fence(api.AcqRel, api.Block)
	wide := fence(api.AcqRel, api.Device)
	sc := fence(api.SC, api.Block)
	wantList(t, "P10.3", withoutCoveredFences([]prog.Stmt{wide, weak, wide, sc, weak, wide}), wide, sc, wide)
	wantList(t, "P10.3", withoutCoveredFences([]prog.Stmt{weak, wide}), weak, wide)
	wantList(t, "P10.3", withoutCoveredFences(nil))
	apart := []prog.Stmt{sc, plain(prog.If), weak, plain(prog.End), weak, plain(prog.Move), weak}
	wantList(t, "P10.3", withoutCoveredFences(apart), apart...)
}

// covers asks for fences on both sides, whatever else looks like one.
func TestCovers(t *testing.T) {
	if covers(store(0, api.SC, api.Device), fence(api.AcqRel, 0)) || covers(fence(api.SC, api.Device), store(0, api.AcqRel, 0)) {
		t.Error("P10.3: what is no fence")
	}
}

func TestTrimmed(t *testing.T) {
	d := api.Device
	b := plain(prog.Barrier)
	wantSame(t, "P10", Trimmed(threads(in(0, fence(api.SC, 0), fence(api.SC, d), b, b, load(2, api.Acquire, d)))),
		threads(in(0, fence(api.SC, 0), b, load(2, api.Acquire, 0))))
	w := store(0, api.Weak, 0)
	wantSame(t, "P10", Trimmed(threads(in(0, w, b, b), in(1, b, w, b), in(0, b, b, w))), threads(in(0, w, b), in(1, b, w, b), in(0, b, w)))
	wantSame(t, "P10", Trimmed(prog.Program{}), prog.Program{})
}

func TestFenced(t *testing.T) {
	d := api.Device
	wantSame(t, "P9", Fenced(threads(in(0, load(0, api.Acquire, d), store(1, api.Release, 0), step(2, api.AcqRel, d)))),
		threads(in(0, load(0, api.Relaxed, d), fence(api.AcqRel, d), fence(api.AcqRel, 0), store(1, api.Relaxed, 0), fence(api.AcqRel, d), step(2, api.Relaxed, d), fence(api.AcqRel, d))))
	stays := threads(in(0, load(0, api.Acquire, d), store(1, api.Release, d), step(2, api.AcqRel, d)), in(1, load(0, api.Weak, 0), load(1, api.Relaxed, 0), step(2, api.Relaxed, d)))
	wantSame(t, "P9", Fenced(stays), stays)
	wantSame(t, "P9", Fenced(prog.Program{}), prog.Program{})
}

// What is handed in stays as it is, to its spare room.
func TestProgramsAreNotChanged(t *testing.T) {
	make := func() prog.Program {
		d := api.Device
		stmts := []prog.Stmt{fence(api.SC, d), fence(api.SC, d), plain(prog.Barrier), plain(prog.Barrier), load(0, api.Acquire, d), store(0, api.Release, d), plain(prog.Move)}
		return threads(in(0, stmts[:6]...), in(0, plain(prog.Barrier), plain(prog.Barrier)))
	}
	p := make()
	Trimmed(p)
	Fenced(p)
	if !reflect.DeepEqual(p, make()) || p.Threads[0].Stmts[:7][6].Kind != prog.Move {
		t.Errorf("P9, P10: what was handed in is now %v", p)
	}
}
