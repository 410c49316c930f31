package kernels_test

import (
	"math/rand"
	"reflect"
	"slices"
	"strings"
	"testing"

	"kernels/api"
	"kernels/kernels"
)

// relations are those of P5, of one candidate.
type relations struct {
	ahead, strong, hangs, reads, behind, misses, communicates table
	sees, tells, gathers                                      table
}

func isOneOf(s string, list ...string) bool { return slices.Contains(list, s) }

func relationsOf(p *picture) relations {
	var r relations
	ev := p.events
	r.ahead = p.table(func(a, b int) bool {
		if ev[a].thread < 0 {
			return ev[b].thread >= 0
		}
		return ev[a].thread == ev[b].thread && ev[a].number < ev[b].number
	})
	r.strong = p.table(func(a, b int) bool {
		x, y := ev[a], ev[b]
		switch {
		case a == b || x.thread < 0 || y.thread < 0:
			return false
		case x.thread == y.thread:
			return true
		case x.order == "weak" || y.order == "weak" || isOneOf("arrival", x.kind, y.kind) || isOneOf("leaving", x.kind, y.kind):
			return false
		}
		return x.block == y.block || x.scope == "device" && y.scope == "device"
	})
	r.hangs = p.table(func(a, b int) bool { return slices.Contains(ev[a].hangs, ev[b].number) })
	r.reads = p.table(func(a, b int) bool { return p.reads[a] == b })
	r.behind = p.table(func(a, b int) bool {
		for _, o := range p.orders {
			i, k := slices.Index(o, a), slices.Index(o, b)
			if i >= 0 && k >= 0 && i < k {
				return true
			}
		}
		return false
	})
	r.misses = p.table(func(a, b int) bool { return p.reads[a] >= 0 && r.behind[p.reads[a]][b] })
	r.communicates = p.table(func(a, b int) bool { return p.reads[b] == a || r.behind[a][b] || r.misses[a][b] })
	r.gathers = p.table(func(a, b int) bool {
		return ev[a].kind == "arrival" && ev[b].kind == "leaving" && ev[a].block == ev[b].block && ev[a].bars == ev[b].bars
	})
	return r
}

func seesOf(p *picture, r relations) table {
	sees := p.table(func(a, b int) bool { return false })
	// There are at most three steps for a chain to go over.
	for range 4 {
		sees = p.table(func(a, b int) bool {
			u := p.reads[a]
			if u < 0 || !r.strong[a][u] {
				return false
			}
			if u == b {
				return true
			}
			for q, e := range p.events {
				if e.kind == "read" && e.step > 0 && e.step == p.events[u].step && sees[q][b] {
					return true
				}
			}
			return false
		})
	}
	return sees
}

func tellsOf(p *picture, r relations) table {
	ev := p.events
	return p.table(func(a, b int) bool {
		if !r.strong[a][b] {
			return false
		}
		for w := range ev {
			from := a == w && isOneOf(ev[w].order, "release", "acqrel") || ev[a].kind == "fence" && r.ahead[a][w]
			if !from || ev[w].kind != "write" || ev[w].order == "weak" {
				continue
			}
			for q := range ev {
				to := b == q && isOneOf(ev[q].order, "acquire", "acqrel") || ev[b].kind == "fence" && r.ahead[q][b]
				if to && ev[q].kind == "read" && ev[q].order != "weak" && r.sees[q][w] {
					return true
				}
			}
		}
		return false
	})
}

func hangsOnItself(p *picture, r relations) bool {
	return circle(p.table(func(a, b int) bool { return r.hangs[a][b] || r.reads[a][b] }))
}

// splits: a write between the two halves of a step.
func splits(p *picture, r relations) bool {
	for a, x := range p.events {
		for b, y := range p.events {
			for w := range p.events {
				if x.kind == "read" && y.kind == "write" && x.step > 0 && x.step == y.step && r.misses[a][w] && r.behind[w][b] {
					return true
				}
			}
		}
	}
	return false
}

// fencesTurn: a circle of sc fences.
func fencesTurn(p *picture, r relations, before, linked table) bool {
	sc := func(a int) bool { return p.events[a].kind == "fence" && p.events[a].order == "sc" }
	return circle(p.table(func(a, b int) bool {
		if !sc(a) || !sc(b) || !r.strong[a][b] {
			return false
		}
		if before[a][b] {
			return true
		}
		for c := range p.events {
			for d := range p.events {
				if before[a][c] && linked[c][d] && before[d][b] {
					return true
				}
			}
		}
		return false
	}))
}

// clash: before is 'before' or 'a cause of'.
func clash(p *picture, r relations, before table) bool {
	for a, x := range p.events {
		for b, y := range p.events {
			reach := isOneOf(x.kind, "read", "write") && isOneOf(y.kind, "read", "write") && isOneOf("write", x.kind, y.kind)
			apart := x.thread >= 0 && y.thread >= 0 && x.thread != y.thread
			if reach && apart && x.variable == y.variable && !r.strong[a][b] && !before[a][b] && !before[b][a] {
				return true
			}
		}
	}
	return false
}

// mayBeOfSource: may the candidate be, and is there a clash in it?
func mayBeOfSource(p *picture) (bool, bool) {
	r := relationsOf(p)
	if hangsOnItself(p, r) || splits(p, r) {
		return false, false
	}
	r.sees = seesOf(p, r)
	r.tells = tellsOf(p, r)
	before := closed(p.table(func(a, b int) bool { return r.ahead[a][b] || r.tells[a][b] || r.gathers[a][b] }))
	linked := closed(r.communicates)
	for a := range p.events {
		for b := range p.events {
			if before[a][a] || before[a][b] && linked[b][a] {
				return false, false
			}
		}
	}
	if fencesTurn(p, r, before, linked) {
		return false, false
	}
	return true, clash(p, r, before)
}

// secondSource is what Source should answer of a text without a fault, and
// how many candidates may not be.
func secondSource(s string) ([][]int, bool, int) {
	var all [][]int
	any := false
	refused := 0
	pictures(s, func(p *picture) {
		may, clash := mayBeOfSource(p)
		if !may {
			refused++
			return
		}
		all = append(all, p.outcome)
		any = any || clash
	})
	slices.SortFunc(all, slices.Compare)
	return slices.CompactFunc(all, slices.Equal), any, refused
}

func one(r *rand.Rand, list ...string) string { return list[r.Intn(len(list))] }

// someOrder is an order of those, with a scope if it needs one.
func someOrder(r *rand.Rand, list ...string) string {
	o := one(r, list...)
	if o == "weak" {
		return o
	}
	return o + " " + one(r, "block", "device", "device")
}

// kernelMaker makes kernels without a fault.
type kernelMaker struct {
	r                 *rand.Rand
	reads, writes, sc int
	variables         []string
}

func (k *kernelMaker) statement() string {
	v := one(k.r, k.variables...)
	reg := one(k.r, "r0", "r0", "r1", "r2")
	a := one(k.r, "0", "1", "1", "2", "3", "r0", "r0", "r1")
	switch n := k.r.Intn(20); {
	case n < 6 && k.reads < 4:
		k.reads++
		return reg + " = load " + v + " " + someOrder(k.r, "weak", "relaxed", "relaxed", "acquire")
	case n < 11 && k.writes < 3:
		k.writes++
		return "store " + v + " " + a + " " + someOrder(k.r, "weak", "relaxed", "relaxed", "release")
	case n < 14 && k.reads < 4 && k.writes < 3:
		k.reads++
		k.writes++
		return reg + " = " + one(k.r, "add", "swap") + " " + v + " " + a + " " + someOrder(k.r, "relaxed", "acquire", "release", "acqrel")
	case n < 16:
		return "fence acqrel " + one(k.r, "block", "device", "device")
	case n < 18 && k.sc < 3:
		k.sc++
		return "fence sc " + one(k.r, "block", "device", "device")
	case n < 19:
		return reg + " = " + a + one(k.r, "", " + ", " - ", " == ") + "?"
	}
	return "if " + a
}

// thread is one with so many barriers.
func (k *kernelMaker) thread(barriers, statements int) string {
	s := ""
	open := 0
	count := 0
	for range statements {
		l := k.statement()
		if strings.HasPrefix(l, "if") && open == 2 {
			continue
		}
		if strings.HasPrefix(l, "if") {
			open++
		}
		if l = strings.TrimSuffix(l, "?"); strings.HasSuffix(l, " ") {
			l += one(k.r, "r0", "r1", "1", "2")
		}
		s += l + "\n"
		count++
		if open > 0 && k.r.Intn(3) == 0 {
			s += "end\n"
			open--
		}
		if open == 0 && barriers > 0 && k.r.Intn(3) == 0 && count < api.MaxStmts-barriers {
			s += "barrier\n"
			barriers--
		}
	}
	return s + strings.Repeat("end\n", open) + strings.Repeat("barrier\n", barriers)
}

func someKernel(r *rand.Rand) string {
	k := kernelMaker{r: r, variables: [][]string{{"x", "y"}, {"x", "y"}, {"x", "y", "z"}, {"y"}}[r.Intn(4)]}
	barriers := []int{max(0, r.Intn(5)-2), max(0, r.Intn(5)-2)}
	s := ""
	for range 1 + r.Intn(4) {
		b := r.Intn(2)
		s += "thread " + string("01"[b]) + "\n" + k.thread(barriers[b], 1+r.Intn(5))
	}
	return s
}

// litmus shuffles what is known to tell the rules from each other: messages,
// crossings and loads ahead of stores, with orders of all kinds.
func litmus(r *rand.Rand) string {
	o := func() string { return someOrder(r, "relaxed", "relaxed", "relaxed", "weak") }
	st := func(v string) string {
		return "store " + v + " " + one(r, "1", "1", "r0") + " " + one(r, o(), someOrder(r, "release"), someOrder(r, "relaxed")) + "\n"
	}
	ld := func(d, v string) string {
		return d + " = load " + v + " " + one(r, o(), someOrder(r, "acquire"), someOrder(r, "relaxed")) + "\n"
	}
	step := func(d, v string) string {
		return d + " = " + one(r, "add", "swap") + " " + v + " " + one(r, "1", "2") + " " + someOrder(r, "relaxed", "acquire", "release", "acqrel") + "\n"
	}
	sc := 0
	f := func() string {
		l := one(r, "", "fence acqrel device\n", "fence acqrel block\n", "fence sc device\n", "fence sc device\n", "fence sc block\n")
		if strings.Contains(l, "sc ") {
			sc++
		}
		if sc > 3 {
			return ""
		}
		return l
	}
	t := func() string { return "thread " + one(r, "0", "1") + "\n" }
	switch r.Intn(9) {
	case 0:
		return t() + st("x") + f() + st("y") + t() + ld("r0", "y") + f() + ld("r1", "x")
	case 1:
		return t() + st("x") + f() + ld("r0", "y") + t() + st("y") + f() + ld("r0", "x")
	case 2:
		return t() + ld("r0", "x") + f() + st("y") + t() + ld("r0", "y") + f() + st("x")
	case 3:
		return t() + st("x") + f() + st("y") + t() + step("r0", "y") + t() + ld("r0", "y") + f() + ld("r1", "x")
	case 4:
		return t() + st("x") + t() + st("y") + t() + ld("r0", "x") + f() + ld("r1", "y") + t() + ld("r0", "y") + f() + ld("r1", "x")
	case 5:
		return t() + st("x") + f() + st("y") + t() + ld("r0", "y") + f() + st("z") + t() + ld("r0", "z") + f() + ld("r1", "x")
	case 6:
		return t() + st("x") + f() + ld("r0", "y") + t() + st("y") + f() + ld("r0", "z") + t() + st("z") + f() + ld("r0", "x")
	case 7:
		return t() + step("r0", "x") + f() + st("y") + t() + ld("r0", "y") + "if r0\n" + f() + step("r1", "x") + "end\n"
	}
	return t() + st("x") + f() + step("r0", "y") + t() + step("r0", "y") + f() + ld("r1", "x") + t() + ld("r0", "y") + "if r0\n" + f() + "end\n"
}

// wantSecond holds Source against the second reading; it answers whether
// there is a clash, and how many candidates may not be.
func wantSecond(t *testing.T, s string) (bool, int) {
	t.Helper()
	o, clash, e, line := kernels.Source(s)
	want, wantClash, refused := secondSource(s)
	if e != api.OK || line != 0 || !reflect.DeepEqual(o, want) || clash != wantClash {
		t.Fatalf("P7: Source(%q) = %v, %v, %d, %d, want %v, %v", s, o, clash, e, line, want, wantClash)
	}
	return clash, refused
}

func TestSourceAgainstASecondReading(t *testing.T) {
	r := rand.New(rand.NewSource(2))
	clashes := 0
	refusing := 0
	n := 1200
	for i := range n {
		s := litmus(r)
		if i%3 == 0 {
			s = someKernel(r)
		}
		clash, refused := wantSecond(t, s)
		if clash {
			clashes++
		}
		if refused > 0 {
			refusing++
		}
	}
	if clashes < n/10 || clashes > n*9/10 || refusing < n/2 {
		t.Errorf("of %d kernels %d clash, %d have candidates that may not be", n, clashes, refusing)
	}
}

// FuzzSource goes on trying kernels for as long as it is let.
func FuzzSource(f *testing.F) {
	f.Add(int64(1), true)
	f.Add(int64(1), false)
	f.Fuzz(func(t *testing.T, seed int64, known bool) {
		r := rand.New(rand.NewSource(seed))
		if known {
			wantSecond(t, litmus(r))
		} else {
			wantSecond(t, someKernel(r))
		}
	})
}
