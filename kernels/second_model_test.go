package kernels_test

import (
	"fmt"
	"maps"
	"slices"
	"strings"
)

// A second reading of P4 to P7, straight from the words, to hold against the
// first. It takes texts that have no fault.

// happening is an event. Its number is unique in a candidate, and rises
// within a thread.
type happening struct {
	number        int
	kind          string // read, write, fence, arrival, leaving
	thread, block int    // thread -1: a first write
	variable      string
	value         int
	order, scope  string
	bars, step    int // step: the same number for both halves, 0 if none
	hangs         []int
}

// doing is a thread on its way.
type doing struct {
	thread, block int
	regs          map[string]int
	made          map[string][]int
	asked         []int
	bars          int
	events        []happening
}

func (d doing) clone() doing {
	d.regs = maps.Clone(d.regs)
	d.made = maps.Clone(d.made)
	d.asked = slices.Clone(d.asked)
	d.events = slices.Clone(d.events)
	return d
}

func (d *doing) operand(word string) (int, []int) {
	if word[0] == 'r' {
		return d.regs[word], d.made[word]
	}
	return int(word[0] - '0'), nil
}

// put lays an event; words are its order and scope.
func (d *doing) put(e happening, words []string) int {
	e.number = (d.thread+1)*100 + len(d.events)
	e.thread = d.thread
	e.block = d.block
	if len(words) > 0 {
		e.order = words[0]
	}
	if len(words) > 1 {
		e.scope = words[1]
	}
	if e.kind == "read" || e.kind == "write" {
		e.hangs = append(slices.Clone(e.hangs), d.asked...)
	}
	d.events = append(d.events, e)
	return e.number
}

// behindEnd are the lines behind the end of the if that stands ahead of them.
func behindEnd(lines []string) []string {
	open := 1
	for i, l := range lines {
		if strings.HasPrefix(l, "if ") {
			open++
		}
		if l == "end" {
			open--
		}
		if open == 0 {
			return lines[i+1:]
		}
	}
	return nil
}

// goOn carries lines out, once for each value that may be read, and hands
// each thread that is through to done.
func (d doing) goOn(lines []string, done func(doing)) {
	if len(lines) == 0 {
		done(d)
		return
	}
	w := strings.Split(lines[0], " ")
	rest := lines[1:]
	switch {
	case w[0] == "if":
		value, made := d.operand(w[1])
		d.asked = append(slices.Clone(d.asked), made...)
		if value == 0 {
			rest = behindEnd(rest)
		}
	case w[0] == "end":
	case w[0] == "store":
		value, made := d.operand(w[2])
		d.put(happening{kind: "write", variable: w[1], value: value, hangs: made}, w[3:])
	case w[0] == "fence":
		d.put(happening{kind: "fence"}, w[1:])
	case w[0] == "barrier":
		d.put(happening{kind: "arrival", bars: d.bars}, nil)
		d.put(happening{kind: "leaving", bars: d.bars}, nil)
		d.bars++
	case w[2] == "load" || w[2] == "add" || w[2] == "swap":
		for value := range 4 {
			next := d.clone()
			next.reach(w, value)
			next.goOn(rest, done)
		}
		return
	default:
		d.reckon(w)
	}
	d.goOn(rest, done)
}

// reach carries out what reads.
func (d *doing) reach(w []string, read int) {
	if w[2] == "load" {
		n := d.put(happening{kind: "read", variable: w[3], value: read}, w[4:])
		d.regs[w[0]] = read
		d.made[w[0]] = []int{n}
		return
	}
	value, made := d.operand(w[4])
	step := (d.thread+1)*100 + len(d.events)
	n := d.put(happening{kind: "read", variable: w[3], value: read, step: step}, w[5:])
	if w[2] == "add" {
		value = (read + value) % 4
		made = append(slices.Clone(made), n)
	}
	d.put(happening{kind: "write", variable: w[3], value: value, step: step, hangs: made}, w[5:])
	d.regs[w[0]] = read
	d.made[w[0]] = []int{n}
}

// reckon carries out a statement of registers.
func (d *doing) reckon(w []string) {
	a, made := d.operand(w[2])
	if len(w) == 5 {
		b, other := d.operand(w[4])
		made = append(slices.Clone(made), other...)
		switch w[3] {
		case "+":
			a = (a + b) % 4
		case "-":
			a = (a - b + 4) % 4
		case "==":
			same := a == b
			a = 0
			if same {
				a = 1
			}
		}
	}
	d.regs[w[0]] = a
	d.made[w[0]] = made
}

// threadsOf are the ways in which each thread may go.
func threadsOf(s string) [][]doing {
	var all [][]doing
	for i, part := range strings.Split(strings.TrimSuffix("\n"+s, "\n"), "\nthread ")[1:] {
		lines := strings.Split(part, "\n")
		d := doing{thread: i, block: int(lines[0][0] - '0'), regs: map[string]int{}, made: map[string][]int{}}
		var ways []doing
		d.goOn(lines[1:], func(d doing) { ways = append(ways, d) })
		all = append(all, ways)
	}
	return all
}

// table is a relation: from the row to the column.
type table [][]bool

// picture is a candidate. Events are named by where they stand in the list.
type picture struct {
	events  []happening
	reads   []int   // for each event the write that it reads, -1
	orders  [][]int // for each variable its writes
	outcome []int
}

func (p *picture) table(is func(a, b int) bool) table {
	t := make(table, len(p.events))
	for a := range t {
		t[a] = make([]bool, len(p.events))
		for b := range t[a] {
			t[a][b] = is(a, b)
		}
	}
	return t
}

// closed: over one step or more.
func closed(t table) table {
	c := make(table, len(t))
	for i := range t {
		c[i] = slices.Clone(t[i])
	}
	for m := range c {
		for a := range c {
			if !c[a][m] {
				continue
			}
			for b := range c {
				c[a][b] = c[a][b] || c[m][b]
			}
		}
	}
	return c
}

func circle(t table) bool {
	c := closed(t)
	for i := range c {
		if c[i][i] {
			return true
		}
	}
	return false
}

func permutations(l []int) [][]int {
	if len(l) == 0 {
		return [][]int{nil}
	}
	var all [][]int
	for i := range l {
		rest := append(slices.Clone(l[:i]), l[i+1:]...)
		for _, p := range permutations(rest) {
			all = append(all, append([]int{l[i]}, p...))
		}
	}
	return all
}

// pictures hands each candidate of a text to each.
func pictures(s string, each func(*picture)) {
	threads := threadsOf(s)
	var pick func(i int, chosen []doing)
	pick = func(i int, chosen []doing) {
		if i < len(threads) {
			for _, d := range threads[i] {
				pick(i+1, append(slices.Clone(chosen), d))
			}
			return
		}
		var p picture
		for v := range 3 {
			p.events = append(p.events, happening{number: v + 1, kind: "write", thread: -1, variable: string("xyz"[v])})
		}
		for _, d := range chosen {
			p.events = append(p.events, d.events...)
			for r := range 4 {
				p.outcome = append(p.outcome, d.regs[fmt.Sprintf("r%d", r)])
			}
		}
		p.pickReads(nil, each)
	}
	pick(0, nil)
}

func (p *picture) pickReads(reads []int, each func(*picture)) {
	i := len(reads)
	if i == len(p.events) {
		p.reads = reads
		p.pickOrders(nil, each)
		return
	}
	e := p.events[i]
	if e.kind != "read" {
		p.pickReads(append(slices.Clone(reads), -1), each)
		return
	}
	for k, w := range p.events {
		if w.kind == "write" && w.variable == e.variable && w.value == e.value && (e.step == 0 || e.step != w.step) {
			p.pickReads(append(slices.Clone(reads), k), each)
		}
	}
}

func (p *picture) pickOrders(orders [][]int, each func(*picture)) {
	v := len(orders)
	if v == 3 {
		q := *p
		q.orders = orders
		q.outcome = slices.Clone(p.outcome)
		for _, o := range orders {
			q.outcome = append(q.outcome, p.events[o[len(o)-1]].value)
		}
		each(&q)
		return
	}
	var writes []int
	for k, w := range p.events {
		if w.kind == "write" && w.thread >= 0 && w.variable == string("xyz"[v]) {
			writes = append(writes, k)
		}
	}
	for _, o := range permutations(writes) {
		p.pickOrders(append(slices.Clone(orders), append([]int{v}, o...)), each)
	}
}
