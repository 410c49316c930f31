package play

import (
	"kernels/api"
	"kernels/prog"
	"kernels/rel"
)

// run is what a thread does for some values read; its events are numbered
// from 0 on.
type run struct {
	events []Event
	regs   [api.Regs]int
}

// runsOf are all runs of a thread, each once.
func runsOf(t prog.Thread, number int) []run {
	codes := 1
	for _, st := range t.Stmts {
		if prog.Reads(st.Kind) {
			codes *= api.Values
		}
	}
	var all []run
	for code := 0; code < codes; code++ {
		m := machine{thread: number, block: t.Block, unread: code}
		m.carryOut(t.Stmts)
		// A run that does not come to all reads leaves values over; it is
		// taken with those alone that are all 0, so that it comes once.
		if m.unread == 0 {
			all = append(all, run{events: m.events, regs: m.regs})
		}
	}
	return all
}

// machine is a thread that is being carried out.
type machine struct {
	thread int
	block  int
	unread int // the values that are still to be read, as digits, the last one first
	regs   [api.Regs]int
	made   [api.Regs]rel.Set // the reads of which each register is made
	asked  rel.Set           // the reads of which the conditions so far are made
	bars   int
	events []Event
}

func (m *machine) carryOut(stmts []prog.Stmt) {
	passed := 0 // how many ifs stand open of which nothing is carried out
	for _, st := range stmts {
		switch {
		case passed > 0 && st.Kind == prog.If:
			passed++
		case passed > 0 && st.Kind == prog.End:
			passed--
		case passed > 0:
		case st.Kind == prog.If:
			m.asked |= m.madeOf(st.A)
			if m.value(st.A) == 0 {
				passed = 1
			}
		default:
			m.do(st)
		}
	}
}

func (m *machine) do(st prog.Stmt) {
	switch st.Kind {
	case prog.Load:
		r := m.read(st)
		m.giveRead(st.Dest, r)
	case prog.Store:
		m.store(st)
	case prog.Add, prog.Swap:
		m.step(st)
	case prog.Fence:
		e := m.event(Fence, st)
		m.put(e)
	case prog.Barrier:
		m.barrier(st)
	case prog.Move, prog.Plus, prog.Minus, prog.Equal:
		value := m.result(st)
		made := m.madeOf(st.A) | m.madeOf(st.B)
		m.give(st.Dest, value, made)
	}
}

func (m *machine) store(st prog.Stmt) {
	value := m.value(st.A)
	made := m.madeOf(st.A)
	m.write(st, value, made)
}

func (m *machine) barrier(st prog.Stmt) {
	arrival := m.event(Arrival, st)
	leaving := m.event(Leaving, st)
	m.put(arrival)
	m.put(leaving)
	m.bars++
}

// step takes the operand before the register is given what was read: they may
// be the same one.
func (m *machine) step(st prog.Stmt) {
	value := m.value(st.A)
	made := m.madeOf(st.A)
	r := m.read(st)
	if st.Kind == prog.Add {
		value = (value + m.valueOf(r)) % api.Values
		made |= rel.One(r)
	}
	m.write(st, value, made)
	m.giveRead(st.Dest, r)
}

// result is what a statement of registers makes.
func (m *machine) result(st prog.Stmt) int {
	a := m.value(st.A)
	b := m.value(st.B)
	switch st.Kind {
	case prog.Plus:
		return (a + b) % api.Values
	case prog.Minus:
		return (a + api.Values - b) % api.Values
	case prog.Equal:
		if a == b {
			return 1
		}
		return 0
	}
	return a
}

// read puts a read of the next value, and answers its number.
func (m *machine) read(st prog.Stmt) int {
	e := m.event(Read, st)
	e.Value = m.unread % api.Values
	m.unread /= api.Values
	return m.put(e)
}

func (m *machine) write(st prog.Stmt, value int, made rel.Set) {
	e := m.event(Write, st)
	e.Value = value
	e.Hangs |= made
	m.put(e)
}

// event is one of a statement, as far as they are alike.
func (m *machine) event(kind int, st prog.Stmt) Event {
	e := Event{Kind: kind, Thread: m.thread, Block: m.block, Var: st.Var, Order: st.Order, Scope: st.Scope}
	switch kind {
	case Read, Write:
		e.Hangs = m.asked
		e.Step = st.Kind == prog.Add || st.Kind == prog.Swap
	case Arrival, Leaving:
		e.Bars = m.bars
	}
	return e
}

// put lays an event behind the others and answers its number.
func (m *machine) put(e Event) int {
	m.events = append(m.events, e)
	return len(m.events) - 1
}

// valueOf is the value of an event.
func (m *machine) valueOf(i int) int {
	if i < 0 || i >= len(m.events) {
		return 0
	}
	return m.events[i].Value
}

func (m *machine) value(a prog.Operand) int {
	if !a.IsReg {
		return a.N
	}
	if a.N < 0 || a.N >= api.Regs {
		return 0
	}
	return m.regs[a.N]
}

// madeOf are the reads of which an operand is made.
func (m *machine) madeOf(a prog.Operand) rel.Set {
	if !a.IsReg || a.N < 0 || a.N >= api.Regs {
		return 0
	}
	return m.made[a.N]
}

func (m *machine) give(dest int, value int, made rel.Set) {
	if dest < 0 || dest >= api.Regs {
		return
	}
	m.regs[dest] = value
	m.made[dest] = made
}

// giveRead gives a register what was read.
func (m *machine) giveRead(dest int, r int) {
	value := m.valueOf(r)
	m.give(dest, value, rel.One(r))
}
