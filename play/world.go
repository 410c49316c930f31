package play

import (
	"kernels/api"
	"kernels/prog"
)

// World is what all threads do for some values read: the events, the first
// writes ahead, and the registers at the end, thread by thread.
type World struct {
	Events []Event
	Regs   []int
}

// Worlds goes through all worlds of a program.
type Worlds struct {
	runs [][]run
	pick counter
}

// WorldsOf stands ahead of the first world.
func WorldsOf(p prog.Program) Worlds {
	var runs [][]run
	var bases []int
	for i, t := range p.Threads {
		all := runsOf(t, i)
		runs = append(runs, all)
		bases = append(bases, len(all))
	}
	return Worlds{runs: runs, pick: newCounter(bases)}
}

// Next goes on; it answers false if there is no further world.
func (w *Worlds) Next() bool {
	return w.pick.next()
}

// World is the world that w stands at.
func (w *Worlds) World() World {
	world := World{Events: firstWrites()}
	for i, digit := range w.pick.digits {
		if i < len(w.runs) && digit < len(w.runs[i]) {
			world.join(w.runs[i][digit])
		}
	}
	return world
}

// join lays a thread's run behind what is there.
func (w *World) join(r run) {
	from := len(w.Events)
	for _, e := range r.events {
		e.Hangs = e.Hangs.Moved(from)
		w.Events = append(w.Events, e)
	}
	for _, value := range r.regs {
		w.Regs = append(w.Regs, value)
	}
}

// Outcome is the outcome with these places of the writes in their orders.
func (w World) Outcome(places []int) []int {
	out := copied(w.Regs)
	for v := 0; v < api.Vars; v++ {
		out = append(out, w.last(v, places))
	}
	return out
}

// last is the value of a variable's last write.
func (w World) last(v int, places []int) int {
	value := 0
	highest := None
	for i, e := range w.Events {
		if i < len(places) && e.Kind == Write && e.Var == v && places[i] > highest {
			highest = places[i]
			value = e.Value
		}
	}
	return value
}
