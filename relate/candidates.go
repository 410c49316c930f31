package relate

import (
	"kernels/play"
	"kernels/prog"
	"kernels/rel"
)

// Candidates goes through the candidates of a program, but for the orders of
// their writes and fences. It passes over those in which something hangs on
// itself: they may be in neither model.
type Candidates struct {
	World    play.World
	Facts    Facts
	Reads    rel.Relation
	worlds   play.Worlds
	readings play.Readings
	begun    bool
}

// CandidatesOf stands ahead of the first candidate.
func CandidatesOf(p prog.Program) Candidates {
	return Candidates{worlds: play.WorldsOf(p)}
}

// Next goes on; it answers false if there is no further candidate.
func (c *Candidates) Next() bool {
	for c.nextReading() {
		c.Reads = c.Facts.reads(c.readings.Reads())
		if !c.Facts.hangsOnItself(c.Reads) {
			return true
		}
	}
	return false
}

// nextReading goes on to the next way to read, if need be in a further world.
func (c *Candidates) nextReading() bool {
	for !c.begun || !c.readings.Next() {
		if !c.worlds.Next() {
			return false
		}
		c.begun = true
		c.World = c.worlds.World()
		c.Facts = FactsOf(c.World.Events)
		c.readings = c.World.Readings()
	}
	return true
}
