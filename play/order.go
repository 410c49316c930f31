package play

// Orders goes through all orders of some events, each of which stands in one
// of a few rows.
type Orders struct {
	rows []int // for each event its row, None if it stands in none
	pick counter
}

// WriteOrders are the orders of each variable's writes, the first write
// always first.
func (w World) WriteOrders() Orders {
	rows := make([]int, len(w.Events))
	for i, e := range w.Events {
		rows[i] = None
		if e.Kind == Write {
			rows[i] = e.Var
		}
	}
	return w.orders(rows)
}

// FenceOrders are the orders of all sc fences, in one row.
func (w World) FenceOrders() Orders {
	rows := make([]int, len(w.Events))
	for i, e := range w.Events {
		rows[i] = None
		if e.IsSC() {
			rows[i] = 0
		}
	}
	return w.orders(rows)
}

// orders lets each event be put anywhere among those of its row that were put
// ahead of it, but not ahead of a first write: so every order comes once.
func (w World) orders(rows []int) Orders {
	bases := make([]int, len(rows))
	for i, row := range rows {
		bases[i] = 1
		for k := 0; k < i && k < len(w.Events); k++ {
			if row != None && rows[k] == row && w.Events[k].Thread != None {
				bases[i]++
			}
		}
	}
	return Orders{rows: copied(rows), pick: newCounter(bases)}
}

// Next goes on; it answers false if there is no further order.
func (o *Orders) Next() bool {
	return o.pick.next()
}

// Places is for each event its place in its row's order, None if it stands in
// none. An event's digit tells how many it is put behind, counted from the
// end, so that no digit moves it ahead of a first write.
func (o *Orders) Places() []int {
	places := make([]int, len(o.rows))
	for i, row := range o.rows {
		places[i] = None
		if row == None || i >= len(o.pick.digits) {
			continue
		}
		places[i] = o.count(i) - o.pick.digits[i]
		for k := 0; k < i; k++ {
			if o.rows[k] == row && places[k] >= places[i] {
				places[k]++
			}
		}
	}
	return places
}

// count is how many events of the same row are numbered lower.
func (o *Orders) count(i int) int {
	n := 0
	for k := 0; k < i && i < len(o.rows); k++ {
		if o.rows[k] == o.rows[i] {
			n++
		}
	}
	return n
}
