package kernels_test

import (
	"fmt"
	"math/rand"
	"slices"
	"strings"
	"testing"

	"kernels/api"
	"kernels/kernels"
)

// A second reading of P8 to P10, over the words of kernels, to hold against
// the first. It takes texts that have no fault.

// node is a statement; of an if also what stands in it.
type node struct {
	words []string
	body  []node
}

// column is a thread.
type column struct {
	block string
	body  []node
}

// columnsOf takes a text apart.
func columnsOf(s string) []column {
	var all []column
	for _, part := range strings.Split("\n"+strings.TrimSuffix(s, "\n"), "\nthread ")[1:] {
		lines := strings.Split(part, "\n")
		body, _ := nodesOf(lines[1:])
		all = append(all, column{lines[0], body})
	}
	return all
}

// nodesOf takes lines up to an end that is not of an if among them, and
// answers those behind it.
func nodesOf(lines []string) ([]node, []string) {
	var all []node
	for len(lines) > 0 && lines[0] != "end" {
		n := node{words: strings.Split(lines[0], " ")}
		lines = lines[1:]
		if n.words[0] == "if" {
			n.body, lines = nodesOf(lines)
			lines = lines[1:]
		}
		all = append(all, n)
	}
	return all, lines
}

// each hands all nodes over, those within others too.
func each(body []node, do func(*node)) {
	for i := range body {
		do(&body[i])
		each(body[i].body, do)
	}
}

// reached is the variable of a load, store or step, else empty.
func (n *node) reached() string {
	switch {
	case n.words[0] == "store":
		return n.words[1]
	case len(n.words) > 4 && isOneOf(n.words[2], "load", "add", "swap"):
		return n.words[3]
	}
	return ""
}

// isOf tells whether one of the words is that.
func (n *node) isOf(word string) bool { return slices.Contains(n.words, word) }

// blocksOf are the blocks whose threads reach a variable.
func blocksOf(all []column, v string) []string {
	var blocks []string
	for _, c := range all {
		each(c.body, func(n *node) {
			if n.reached() == v && !slices.Contains(blocks, c.block) {
				blocks = append(blocks, c.block)
			}
		})
	}
	return blocks
}

func scopesSecond(all []column) {
	one := !slices.ContainsFunc(all, func(c column) bool { return c.block != all[0].block })
	for _, c := range all {
		each(c.body, func(n *node) {
			v := n.reached()
			if v != "" && len(blocksOf(all, v)) == 1 || n.words[0] == "fence" && one {
				if k := len(n.words) - 1; n.words[k] == "device" {
					n.words[k] = "block"
				}
			}
		})
	}
}

// barrierPlaces tells where barriers stand in a thread.
func barrierPlaces(body []node) []int {
	var places []int
	for i, n := range body {
		if n.words[0] == "barrier" {
			places = append(places, i)
		}
	}
	return places
}

func onlyRegisters(body []node) bool {
	return !slices.ContainsFunc(body, func(n node) bool {
		switch {
		case n.words[0] == "if":
			return !onlyRegisters(n.body)
		case isOneOf(n.words[0], "store", "fence", "barrier"):
			return true
		}
		return n.reached() != ""
	})
}

func barriersSecond(all []column) {
	for _, block := range []string{"0", "1"} {
		idle := true
		for _, c := range all {
			if at := barrierPlaces(c.body); c.block == block {
				idle = idle && len(at) == 2 && onlyRegisters(c.body[at[0]+1:at[1]])
			}
		}
		for i, c := range all {
			if c.block == block && idle {
				second := barrierPlaces(c.body)[1]
				all[i].body = slices.Delete(slices.Clone(c.body), second, second+1)
			}
		}
	}
}

func fencesSecond(body []node) []node {
	for i := 0; i < len(body); i++ {
		body[i].body = fencesSecond(body[i].body)
		if i == 0 || body[i].words[0] != "fence" || body[i-1].words[0] != "fence" {
			continue
		}
		before, now := &body[i-1], &body[i]
		if (before.isOf("sc") || now.isOf("acqrel")) && (before.isOf("device") || now.isOf("block")) {
			body = slices.Delete(slices.Clone(body), i, i+1)
			i--
		}
	}
	return body
}

// pureSecond tells whether a variable is pure.
func pureSecond(all []column, v string) bool {
	both := len(blocksOf(all, v)) == 2
	pure := true
	for _, c := range all {
		each(c.body, func(n *node) {
			if n.reached() == v && (n.isOf("weak") || both && (n.isOf("block") || n.isOf("acqrel"))) {
				pure = false
			}
		})
	}
	return pure
}

// linesSecond lays statements out again, with 1 in the way by fences.
func linesSecond(body []node, pure []string) []string {
	var lines []string
	for _, n := range body {
		l := strings.Join(n.words, " ")
		fence := "fence acqrel " + n.words[len(n.words)-1]
		switch {
		case n.words[0] == "if":
			lines = append(append(append(lines, l), linesSecond(n.body, pure)...), "end")
			continue
		case !slices.Contains(pure, n.reached()):
			lines = append(lines, l)
			continue
		}
		if n.isOf("release") || n.isOf("acqrel") {
			lines = append(lines, fence)
		}
		lines = append(lines, strings.NewReplacer("acquire", "relaxed", "release", "relaxed", "acqrel", "relaxed").Replace(l))
		if n.isOf("acquire") || n.isOf("acqrel") {
			lines = append(lines, fence)
		}
	}
	return lines
}

// kernelSecond is what a kernel has become ahead of P8, still in the words of
// kernels: it may have more statements than a kernel may.
func kernelSecond(s string, way int) []string {
	all := columnsOf(s)
	if way >= 2 {
		scopesSecond(all)
		barriersSecond(all)
		for i := range all {
			all[i].body = fencesSecond(all[i].body)
		}
	}
	var pure []string
	for _, v := range variables {
		if way%2 == 1 && pureSecond(all, v) {
			pure = append(pure, v)
		}
	}
	var lines []string
	for _, c := range all {
		lines = append(append(lines, "thread "+c.block), linesSecond(c.body, pure)...)
	}
	return lines
}

// compileSecond is what Compile should answer of a text without a fault; known
// are the instructions of all statements but ifs.
func compileSecond(s string, way int, known map[string]string) string {
	return instructionsOf(kernelSecond(s, way), known)
}

// instructionsOf are the instructions of lines in the words of kernels.
func instructionsOf(lines []string, known map[string]string) string {
	text := ""
	ifs := 0
	var open []int
	for _, l := range lines {
		switch {
		case strings.HasPrefix(l, "thread "):
			text += "." + l + "\n"
		case strings.HasPrefix(l, "if "):
			ifs++
			open = append(open, ifs)
			text += fmt.Sprintf("bz %s, L%d\n", asOperand(l[3:]), ifs)
		case l == "end":
			text += fmt.Sprintf("L%d:\n", open[len(open)-1])
			open = open[:len(open)-1]
		default:
			text += known[l] + "\n"
		}
	}
	return text
}

func instructionsOfLines() map[string]string {
	known := map[string]string{}
	for _, l := range allLines() {
		known[l.kernel] = l.instruction
	}
	return known
}

// wayKernel makes kernels of what the rules of P9 and P10 ask about: fences
// side by side, barriers with little between, few variables.
func wayKernel(r *rand.Rand) string {
	k := kernelMaker{r: r, variables: [][]string{{"x"}, {"x", "y"}, {"x", "y", "z"}}[r.Intn(3)]}
	scopes := [][]string{{"device"}, {"device", "device", "device", "block"}, {"block", "device"}}[r.Intn(3)]
	weak := r.Intn(3) > 0
	blocks := [][]int{{0}, {1}, {0, 1}, {0, 1}}[r.Intn(4)]
	barriers := []int{r.Intn(3), r.Intn(3)}
	s := ""
	for range 1 + r.Intn(4) {
		b := blocks[r.Intn(len(blocks))]
		s += fmt.Sprintf("thread %d\n", b) + wayThread(&k, barriers[b], scopes, weak)
	}
	return s
}

func wayThread(k *kernelMaker, barriers int, scopes []string, weak bool) string {
	s := ""
	open := 0
	for n := 0; n < api.MaxStmts-barriers; n++ {
		l := strings.TrimSuffix(strings.TrimSuffix(k.statement(), "?"), " ")
		if strings.HasSuffix(l, "+") || strings.HasSuffix(l, "-") || strings.HasSuffix(l, "==") {
			l += " r1"
		}
		w := strings.Split(l, " ")
		last := len(w) - 1
		switch {
		case isOneOf(w[last], "block", "device"):
			w[last] = one(k.r, scopes...)
		case w[last] == "weak" && !weak:
			w[last] = "relaxed " + one(k.r, scopes...)
		case w[0] == "if" && open == 2:
			continue
		case w[0] == "if":
			open++
		}
		s += strings.Join(w, " ") + "\n"
		if open > 0 && k.r.Intn(2) == 0 {
			s += "end\n"
			open--
		}
		if open == 0 && barriers > 0 && k.r.Intn(3) == 0 {
			s += "barrier\n"
			barriers--
			if barriers > 0 && k.r.Intn(2) == 0 {
				s += one(k.r, "", "", "r0 = 1\n", "if r0\nend\n") + "barrier\n"
				barriers--
			}
			n++
		}
		if k.r.Intn(8) == 0 {
			break
		}
	}
	return s + strings.Repeat("end\n", open) + strings.Repeat("barrier\n", barriers)
}

// wantWays holds Compile in every way against the second reading; it answers
// in which ways the text differs from way 0's.
func wantWays(t *testing.T, s string, known map[string]string) [api.Ways]bool {
	t.Helper()
	var differs [api.Ways]bool
	plain, _, _ := kernels.Compile(s, 0)
	for way := range api.Ways {
		a, e, line := kernels.Compile(s, way)
		want := compileSecond(s, way, known)
		if a != want || e != api.OK || line != 0 {
			t.Fatalf("P8, P9, P10: Compile(%q, %d) = %q, %d, %d, want %q", s, way, a, e, line, want)
		}
		differs[way] = a != plain
	}
	return differs
}

func TestWaysAgainstASecondReading(t *testing.T) {
	r := rand.New(rand.NewSource(3))
	known := instructionsOfLines()
	lines := allLines()
	var differing [api.Ways]int
	taken := 0
	for i := range 16000 {
		s := wayKernel(r)
		switch i % 4 {
		case 1:
			s = someText(r, lines)
		case 2:
			s = someKernel(r)
		}
		if e, _ := fault(s); e != api.OK {
			continue
		}
		taken++
		for way, d := range wantWays(t, s, known) {
			if d {
				differing[way]++
			}
		}
	}
	if taken < 6000 || differing[1] < taken/10 || differing[2] < taken/10 || differing[3] < taken/5 {
		t.Errorf("of %d kernels only %v are other than in way 0", taken, differing)
	}
}

// FuzzWays goes on trying kernels for as long as it is let.
func FuzzWays(f *testing.F) {
	f.Add(int64(1), true)
	f.Add(int64(1), false)
	known := instructionsOfLines()
	f.Fuzz(func(t *testing.T, seed int64, narrow bool) {
		r := rand.New(rand.NewSource(seed))
		s := someKernel(r)
		if narrow {
			s = wayKernel(r)
		}
		if e, _ := fault(s); e == api.OK {
			wantWays(t, s, known)
		}
	})
}
