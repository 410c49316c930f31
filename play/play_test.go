package play

import (
	"reflect"
	"slices"
	"strings"
	"testing"

	"kernels/api"
	"kernels/parse"
	"kernels/prog"
	"kernels/rel"
)

// read reads a kernel; a slash is a line's end.
func read(t *testing.T, s string) prog.Program {
	t.Helper()
	p, e, line := parse.Kernel(strings.ReplaceAll(s, "/", "\n"))
	if e != api.OK {
		t.Fatalf("%q: fault %d, line %d", s, e, line)
	}
	return p
}

// runWith is the run of a thread that reads just these values.
func runWith(t *testing.T, s string, values ...int) run {
	t.Helper()
	for _, r := range runsOf(read(t, "thread 0/"+s).Threads[0], 0) {
		var got []int
		for _, e := range r.events {
			if e.Kind == Read {
				got = append(got, e.Value)
			}
		}
		if slices.Equal(got, values) {
			return r
		}
	}
	t.Fatalf("%q: no run reads %v", s, values)
	return run{}
}

func TestRegisters(t *testing.T) {
	for _, c := range []struct {
		s    string
		read []int
		want [api.Regs]int
	}{
		{"", nil, [api.Regs]int{}},
		{"r0 = 3/r1 = r0/r2 = r1 + 2/r3 = 1 - r0/", nil, [api.Regs]int{3, 3, 1, 2}},
		{"r0 = 2 == 2/r1 = 2 == 3/r2 = r0 == 1/r3 = r3 == r1/", nil, [api.Regs]int{1, 0, 1, 1}},
		{"r0 = 3 + 3/r1 = 0 - 3/r2 = 2 - 2/r3 = 3 - 1/", nil, [api.Regs]int{2, 1, 0, 2}},
		{"r0 = load x weak/r1 = load y weak/", []int{3, 1}, [api.Regs]int{3, 1}},
		{"r2 = add x 3 relaxed block/r2 = swap x r2 relaxed block/", []int{2, 1}, [api.Regs]int{0, 0, 1}},
		{"if 0/r0 = 1/end/if 1/r1 = 1/end/if r1/r2 = 1/end/if r0/r3 = 1/end/", nil, [api.Regs]int{0, 1, 1, 0}},
		{"if 3/r0 = 1/if 0/r1 = 1/end/r2 = 1/end/r3 = 1/", nil, [api.Regs]int{1, 0, 1, 1}},
		{"if 0/r0 = 1/if 1/r1 = 1/end/r2 = 1/end/r3 = 1/", nil, [api.Regs]int{0, 0, 0, 1}},
		{"r0 = load x weak/if r0/r1 = load y weak/end/r2 = load z weak/", []int{0, 3}, [api.Regs]int{0, 0, 3}},
		{"r0 = load x weak/if r0/r1 = load y weak/end/r2 = load z weak/", []int{2, 1, 3}, [api.Regs]int{2, 1, 3}},
	} {
		if r := runWith(t, c.s, c.read...); r.regs != c.want {
			t.Errorf("P4: %q reading %v: %v, want %v", c.s, c.read, r.regs, c.want)
		}
	}
}

func TestEvents(t *testing.T) {
	for _, c := range []struct {
		s    string
		read []int
		want []Event
	}{
		{"r1 = load y acquire device/", []int{2}, []Event{{Kind: Read, Var: 1, Value: 2, Order: api.Acquire, Scope: api.Device}}},
		{"store z 3 weak/", nil, []Event{{Kind: Write, Var: 2, Value: 3, Order: api.Weak}}},
		{"r0 = 2/store z r0 release block/", nil, []Event{{Kind: Write, Var: 2, Value: 2, Order: api.Release, Scope: api.Block}}},
		{"r0 = add x 3 acqrel device/", []int{2}, []Event{
			{Kind: Read, Value: 2, Order: api.AcqRel, Scope: api.Device, Step: true},
			{Kind: Write, Value: 1, Order: api.AcqRel, Scope: api.Device, Step: true, Hangs: 1}}},
		{"r0 = swap x 3 release block/", []int{2}, []Event{
			{Kind: Read, Value: 2, Order: api.Release, Step: true},
			{Kind: Write, Value: 3, Order: api.Release, Step: true}}},
		{"fence sc device/fence acqrel block/", nil, []Event{{Kind: Fence, Order: api.SC, Scope: api.Device}, {Kind: Fence, Order: api.AcqRel}}},
		{"barrier/barrier/", nil, []Event{{Kind: Arrival}, {Kind: Leaving}, {Kind: Arrival, Bars: 1}, {Kind: Leaving, Bars: 1}}},
		{"r0 = 1/if 0/store x 1 weak/fence sc block/end/", nil, nil},
	} {
		if r := runWith(t, c.s, c.read...); !slices.Equal(r.events, c.want) {
			t.Errorf("P4: %q reading %v: %+v, want %+v", c.s, c.read, r.events, c.want)
		}
	}
}

// TestHangs: what the last event hangs on; reads are numbered as events are.
func TestHangs(t *testing.T) {
	l := "r0 = load x weak/"
	s := "store y r1 weak/"
	for _, c := range []struct {
		s    string
		read []int
		want rel.Set
	}{
		{l + "store y 1 weak/", []int{0}, 0},
		{l + "store y r0 weak/", []int{1}, rel.One(0)},
		{l + s, []int{1}, 0},
		{l + "r1 = r0/" + s, []int{1}, rel.One(0)},
		{l + "r1 = 1 + r0/" + s, []int{1}, rel.One(0)},
		{l + "r1 = r0 - r0/" + s, []int{1}, rel.One(0)},
		{l + "r1 = r0 == 2/" + s, []int{1}, rel.One(0)},
		{l + "r1 = 1 == r0/r1 = r1/r1 = 2/" + s, []int{1}, 0},
		{l + "r1 = load x weak/r1 = r0 + r1/" + s, []int{1, 1}, rel.One(0) | rel.One(1)},
		{l + l + "store y r0 weak/", []int{1, 1}, rel.One(1)},
		{l + "r2 = r0/" + l + "store y r2 weak/", []int{1, 1}, rel.One(0)},
		{l + "r1 = swap z r0 relaxed block/", []int{1, 2}, rel.One(0)},
		{l + "r1 = swap z 1 relaxed block/", []int{1, 2}, 0},
		{l + "r1 = add z r0 relaxed block/", []int{1, 2}, rel.One(0) | rel.One(1)},
		{l + "r1 = add z 0 relaxed block/", []int{1, 2}, rel.One(1)},
		{l + "r0 = add z r0 relaxed block/store x r0 weak/", []int{1, 2}, rel.One(1)},
		{l + "if r0/end/store y 1 weak/", []int{1}, rel.One(0)},
		{l + "if r0/end/store y 1 weak/", []int{0}, rel.One(0)},
		{l + "if r0/store y 1 weak/end/", []int{1}, rel.One(0)},
		{l + "if r0/end/r1 = load y weak/", []int{0, 1}, rel.One(0)},
		{l + "if r0/end/fence sc block/", []int{1}, 0},
		{l + "store y 1 weak/if r0/end/", []int{1}, 0},
		{l + "if r0/r0 = 1/end/r0 = 0/store y r0 weak/", []int{1}, rel.One(0)},
		{l + "if 0/if r0/end/end/store y 1 weak/", []int{1}, 0},
		{l + "if 1/if r0/end/end/store y 1 weak/", []int{1}, rel.One(0)},
		{l + "if 1/end/if r1/end/store y 1 weak/", []int{1}, 0},
		{l + "r1 = load y weak/if r0/if r1/end/end/store z 1 weak/", []int{0, 1}, rel.One(0)},
		{l + "r1 = load y weak/if r0/if r1/end/end/store z 1 weak/", []int{1, 0}, rel.One(0) | rel.One(1)},
	} {
		r := runWith(t, c.s, c.read...)
		if got := r.events[len(r.events)-1].Hangs; got != c.want {
			t.Errorf("P5: %q reading %v: hangs on %b, want %b", c.s, c.read, got, c.want)
		}
	}
}

func TestEachRunOnce(t *testing.T) {
	for _, c := range []struct {
		s    string
		want int
	}{
		{"", 1}, {"store x 1 weak/", 1}, {"r0 = load x weak/", 4}, {"r0 = add x 1 relaxed block/r0 = load x weak/", 16},
		{"r0 = load x weak/if r0/r1 = load x weak/end/", 1 + 3*4}, {"if 0/r0 = load x weak/end/", 1},
		{"r0 = load x weak/if r0/r1 = load x weak/end/r2 = load x weak/", 4 + 3*16},
		{many("r0 = load x weak/", 4), 256},
	} {
		all := runsOf(read(t, "thread 1/"+c.s).Threads[0], 0)
		for i := range all {
			for k := range i {
				if reflect.DeepEqual(all[i].events, all[k].events) {
					t.Errorf("P4: %q: runs %d and %d are the same", c.s, i, k)
				}
			}
		}
		if len(all) != c.want {
			t.Errorf("P4: %q: %d runs, want %d", c.s, len(all), c.want)
		}
	}
}

func many(s string, n int) string { return strings.Repeat(s, n) }

func TestWorlds(t *testing.T) {
	w := WorldsOf(read(t, "thread 1/r3 = load x weak/store y r3 weak/thread 0/r0 = load y weak/store z r0 weak/"))
	n := 0
	for w.Next() {
		world := w.World()
		a, b := n%4, n/4
		want := World{Events: []Event{
			{Kind: Write, Thread: None}, {Kind: Write, Thread: None, Var: 1}, {Kind: Write, Thread: None, Var: 2},
			{Kind: Read, Block: 1, Value: a}, {Kind: Write, Block: 1, Var: 1, Value: a, Hangs: rel.One(3)},
			{Kind: Read, Thread: 1, Var: 1, Value: b}, {Kind: Write, Thread: 1, Var: 2, Value: b, Hangs: rel.One(5)},
		}, Regs: []int{0, 0, 0, a, b, 0, 0, 0}}
		if !reflect.DeepEqual(world, want) {
			t.Errorf("P4: world %d: %+v, want %+v", n, world, want)
		}
		n++
	}
	if n != 16 {
		t.Errorf("P4: %d worlds", n)
	}
}

func TestReadings(t *testing.T) {
	w := World{Events: append(firstWrites(),
		Event{Kind: Write, Value: 1},                    // 3
		Event{Kind: Read, Value: 1},                     // 4
		Event{Kind: Read, Value: 0, Step: true},         // 5
		Event{Kind: Write, Value: 0, Step: true},        // 6
		Event{Kind: Write, Thread: 1, Value: 1},         // 7
		Event{Kind: Write, Thread: 1, Var: 1, Value: 1}, // 8
		Event{Kind: Read, Thread: 1, Value: 0},          // 9
		Event{Kind: Fence, Thread: 1, Order: api.SC},    // 10
		Event{Kind: Read, Thread: 1, Var: 2, Value: 0})} // 11
	want := map[[4]int]int{}
	for _, a := range []int{3, 7} {
		for _, c := range []int{0, 6} {
			want[[4]int{a, 0, c, 2}] = 1
		}
	}
	r := w.Readings()
	for r.Next() {
		l := r.Reads()
		if len(l) != 12 || !slices.Equal([]int{l[0], l[1], l[2], l[3], l[6], l[7], l[8], l[10]}, []int{None, None, None, None, None, None, None, None}) {
			t.Fatalf("P4: what is no read reads: %v", l)
		}
		want[[4]int{l[4], l[5], l[9], l[11]}]--
	}
	for k, n := range want {
		if n != 0 {
			t.Errorf("P4: %v: %d too few", k, n)
		}
	}
	w.Events[4].Value = 2
	if r = w.Readings(); r.Next() {
		t.Error("P4: a value is read that nothing wrote")
	}
}

func TestWriteOrders(t *testing.T) {
	w := World{Events: append(firstWrites(), Event{Kind: Write}, Event{Kind: Write, Thread: 1}, Event{Kind: Read}, Event{Kind: Write, Thread: 1})}
	met := map[[3]int]int{}
	o := w.WriteOrders()
	for o.Next() {
		p := o.Places()
		if p[0] != 0 || p[1] != 0 || p[2] != 0 || p[5] != None {
			t.Fatalf("P4: places %v", p)
		}
		met[[3]int{p[3], p[4], p[6]}]++
	}
	for _, p := range [][3]int{{1, 2, 3}, {1, 3, 2}, {2, 1, 3}, {2, 3, 1}, {3, 1, 2}, {3, 2, 1}} {
		if met[p] != 1 {
			t.Errorf("P4: order %v comes %d times", p, met[p])
		}
	}
	if len(met) != 6 {
		t.Errorf("P4: %d orders", len(met))
	}
	for i, n := range []int{1, 1, 2, 6} {
		w := World{Events: firstWrites()}
		for k := range i {
			w.Events = append(w.Events, Event{Kind: Write, Thread: k, Var: 2})
		}
		w.Events = append(w.Events, Event{Kind: Write, Var: 1}, Event{Kind: Write, Var: 1})
		count := 0
		for o := w.WriteOrders(); o.Next(); {
			count++
		}
		if count != 2*n {
			t.Errorf("P4: %d orders of %d writes and two others, want %d", count, i, 2*n)
		}
	}
}

func TestFenceOrders(t *testing.T) {
	sc := Event{Kind: Fence, Order: api.SC}
	far := Event{Kind: Fence, Thread: 1, Order: api.SC, Scope: api.Device}
	w := World{Events: append(firstWrites(), sc, Event{Kind: Write, Order: api.SC}, sc, Event{Kind: Fence, Order: api.AcqRel}, far)}
	met := map[[3]int]int{}
	o := w.FenceOrders()
	for o.Next() {
		p := o.Places()
		if p[0] != None || p[1] != None || p[2] != None || p[4] != None || p[6] != None {
			t.Fatalf("P4: places %v", p)
		}
		met[[3]int{p[3], p[5], p[7]}]++
	}
	for _, p := range [][3]int{{0, 1, 2}, {0, 2, 1}, {1, 0, 2}, {1, 2, 0}, {2, 0, 1}, {2, 1, 0}} {
		if met[p] != 1 {
			t.Errorf("P4: order %v comes %d times", p, met[p])
		}
	}
	if len(met) != 6 {
		t.Errorf("P4: %d orders", len(met))
	}
	w.Events = firstWrites()
	if o = w.FenceOrders(); !o.Next() || o.Next() {
		t.Error("P4: no fences have just one order")
	}
}

func TestOutcome(t *testing.T) {
	w := World{Regs: []int{1, 2, 3, 0}, Events: append(firstWrites(), Event{Kind: Write, Value: 1}, Event{Kind: Write, Value: 2}, Event{Kind: Read, Value: 3}, Event{Kind: Write, Var: 2, Value: 3})}
	for _, c := range []struct{ places, want []int }{
		{[]int{0, 0, 0, 1, 2, None, 1}, []int{1, 2, 3, 0, 2, 0, 3}},
		{[]int{0, 0, 0, 2, 1, None, 1}, []int{1, 2, 3, 0, 1, 0, 3}},
	} {
		if o := w.Outcome(c.places); !slices.Equal(o, c.want) {
			t.Errorf("P4: %v: %v, want %v", c.places, o, c.want)
		}
	}
	w.Outcome(make([]int, 7))[0] = 9
	if w.Regs[0] != 1 {
		t.Error("P1: an outcome shares the registers")
	}
}

func TestOutcomes(t *testing.T) {
	var o Outcomes
	for _, row := range [][]int{{1, 2}, {0, 3}, {1, 2}, {3, 0}, {0, 3}, {1, 1}, {1, 3}, {0, 0}, {3, 0}} {
		o.Add(row)
		row[0] = 9
	}
	want := [][]int{{0, 0}, {0, 3}, {1, 1}, {1, 2}, {1, 3}, {3, 0}}
	if !reflect.DeepEqual(o.Rows(), want) {
		t.Errorf("P7: %v, want %v", o.Rows(), want)
	}
	if compare([]int{1}, []int{1, 0}) >= 0 || compare([]int{1, 0}, []int{1}) <= 0 || compare([]int{2}, []int{1, 0}) <= 0 {
		t.Error("P7: outcomes of two lengths")
	}
}
