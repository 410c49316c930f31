package play

// Outcomes are outcomes, each once, rising.
type Outcomes struct {
	rows [][]int
}

// Rows are the outcomes.
func (o *Outcomes) Rows() [][]int {
	return o.rows
}

// Add lays an outcome in.
func (o *Outcomes) Add(row []int) {
	at := o.find(row)
	if at < len(o.rows) && compare(o.rows[at], row) == 0 {
		return
	}
	o.rows = append(o.rows, nil)
	for i := len(o.rows) - 1; i > at && i > 0; i-- {
		o.rows[i] = o.rows[i-1]
	}
	if at < len(o.rows) {
		o.rows[at] = copied(row)
	}
}

// find is the place of the first outcome that is not less.
func (o *Outcomes) find(row []int) int {
	low := 0
	high := len(o.rows)
	for low < high {
		middle := low + (high-low)/2
		if compare(o.rows[middle], row) < 0 {
			low = middle + 1
		} else {
			high = middle
		}
	}
	return low
}

// compare is below 0, 0 or above 0 as a is less than b, the same or greater.
func compare(a []int, b []int) int {
	for i := range a {
		if i >= len(b) {
			return 1
		}
		if a[i] != b[i] {
			return a[i] - b[i]
		}
	}
	return len(a) - len(b)
}
