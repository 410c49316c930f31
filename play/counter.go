package play

// counter goes through all rows of digits, each digit below its base.
type counter struct {
	bases  []int
	digits []int
	begun  bool
}

func newCounter(bases []int) counter {
	return counter{bases: copied(bases), digits: make([]int, len(bases))}
}

// copied is a list of the same numbers that is no one else's.
func copied(list []int) []int {
	fresh := make([]int, len(list))
	copy(fresh, list)
	return fresh
}

// next goes on to the next row, at first to the one of zeros; it answers
// false if there is none.
func (c *counter) next() bool {
	if !c.begun {
		c.begun = true
		return c.some()
	}
	for i, base := range c.bases {
		c.digits[i]++
		if c.digits[i] < base {
			return true
		}
		c.digits[i] = 0
	}
	return false
}

// some tells whether there is any row.
func (c *counter) some() bool {
	for _, base := range c.bases {
		if base < 1 {
			return false
		}
	}
	return true
}
