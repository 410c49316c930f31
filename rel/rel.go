// Package rel: sets of a few events, and relations among them.
package rel

// Most is how many events there is room for: a set has a bit for each. No
// text that is without a fault has more than 60.
const Most = 64

// Set has the events whose bits are 1.
type Set uint64

// One is the set of one event.
func One(i int) Set {
	if i < 0 || i >= Most {
		return 0
	}
	return Set(1) << uint(i)
}

// Has tells whether an event is in the set.
func (s Set) Has(i int) bool {
	return s&One(i) != 0
}

// Moved is the same set, of events that are numbered from n on.
func (s Set) Moved(n int) Set {
	if n < 0 || n >= Most {
		return 0
	}
	return s << uint(n)
}

// Relation has for each event the set of those that it leads to.
type Relation struct {
	rows []Set
}

// New is a relation among n events that leads nowhere.
func New(n int) Relation {
	if n < 0 || n > Most {
		n = 0
	}
	return Relation{rows: make([]Set, n)}
}

// Add lets a lead to b.
func (r *Relation) Add(a int, b int) {
	if a < 0 || a >= len(r.rows) || b >= len(r.rows) {
		return
	}
	r.rows[a] |= One(b)
}

// Of is the set of what a leads to.
func (r Relation) Of(a int) Set {
	if a < 0 || a >= len(r.rows) {
		return 0
	}
	return r.rows[a]
}

// Has tells whether a leads to b.
func (r Relation) Has(a int, b int) bool {
	return r.Of(a).Has(b)
}

// Or leads where either does.
func (r Relation) Or(other Relation) Relation {
	both := New(len(r.rows))
	for i := range both.rows {
		both.rows[i] = r.Of(i) | other.Of(i)
	}
	return both
}

// And leads where both do.
func (r Relation) And(other Relation) Relation {
	both := New(len(r.rows))
	for i := range both.rows {
		both.rows[i] = r.Of(i) & other.Of(i)
	}
	return both
}

// Turned leads the other way.
func (r Relation) Turned() Relation {
	turned := New(len(r.rows))
	for a := range r.rows {
		for b := range r.rows {
			if r.Has(a, b) {
				turned.Add(b, a)
			}
		}
	}
	return turned
}

// Then leads from a to c if r leads from a to something from which next
// leads to c.
func (r Relation) Then(next Relation) Relation {
	joined := New(len(r.rows))
	for a := range joined.rows {
		if r.Of(a) == 0 {
			continue
		}
		for b := range joined.rows {
			if r.Has(a, b) {
				joined.rows[a] |= next.Of(b)
			}
		}
	}
	return joined
}

// Closed leads wherever r leads over one step or more.
func (r Relation) Closed() Relation {
	closed := r.Or(r)
	for b := range closed.rows {
		for a := range closed.rows {
			if closed.Has(a, b) {
				closed.rows[a] |= closed.rows[b]
			}
		}
	}
	return closed
}

// Leads tells whether something leads somewhere.
func (r Relation) Leads() bool {
	for i := range r.rows {
		if r.rows[i] != 0 {
			return true
		}
	}
	return false
}

// Loops tells whether something leads to itself in one step.
func (r Relation) Loops() bool {
	for i := range r.rows {
		if r.Has(i, i) {
			return true
		}
	}
	return false
}

// Circles tells whether something leads to itself over one step or more.
func (r Relation) Circles() bool {
	return r.Closed().Loops()
}
