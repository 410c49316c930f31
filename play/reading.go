package play

// Readings goes through all ways in which the reads of a world may read its
// writes.
type Readings struct {
	choices [][]int // for each event what it may read
	pick    counter
}

// Readings stands ahead of the first way.
func (w World) Readings() Readings {
	var choices [][]int
	var bases []int
	for i := range w.Events {
		may := w.mayRead(i)
		choices = append(choices, may)
		bases = append(bases, len(may))
	}
	return Readings{choices: choices, pick: newCounter(bases)}
}

// mayRead are the writes that an event may read; what is no read reads None.
func (w World) mayRead(i int) []int {
	if i < 0 || i >= len(w.Events) || w.Events[i].Kind != Read {
		return []int{None}
	}
	r := w.Events[i]
	var all []int
	for k, e := range w.Events {
		own := r.Step && k == i+1
		if e.Kind == Write && e.Var == r.Var && e.Value == r.Value && !own {
			all = append(all, k)
		}
	}
	return all
}

// Next goes on; it answers false if there is no further way.
func (r *Readings) Next() bool {
	return r.pick.next()
}

// Reads is for each event the write that it reads, None if it is no read.
func (r *Readings) Reads() []int {
	reads := make([]int, len(r.choices))
	for i, may := range r.choices {
		reads[i] = None
		if i < len(r.pick.digits) && r.pick.digits[i] < len(may) {
			reads[i] = may[r.pick.digits[i]]
		}
	}
	return reads
}
