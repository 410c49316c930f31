package kernels_test

import (
	"fmt"
	"math/rand"
	"reflect"
	"regexp"
	"slices"
	"strings"
	"testing"

	"kernels/api"
	"kernels/kernels"
)

// A second reading of P11, by patterns, to hold against the first.
var (
	isThreadLine = regexp.MustCompile(`\A\.thread ([01])\z`)
	isLd         = regexp.MustCompile(`\Ald\.(weak|(relaxed|acquire)\.(cta|gpu)) %r[0-3], \[[xyz]\]\z`)
	isSt         = regexp.MustCompile(`\Ast\.(weak|(relaxed|release)\.(cta|gpu)) \[[xyz]\], (%r)?[0-3]\z`)
	isAtom       = regexp.MustCompile(`\Aatom\.(add|exch)\.(relaxed|acquire|release|acq_rel)\.(cta|gpu) %r[0-3], \[[xyz]\], (%r)?[0-3]\z`)
	isFenceLine  = regexp.MustCompile(`\Afence\.(acq_rel|sc)\.(cta|gpu)\z`)
	isBarSync    = regexp.MustCompile(`\Abar\.sync\z`)
	isOfRegs     = regexp.MustCompile(`\A(mov %r[0-3]|(add|sub|seteq) %r[0-3], (%r)?[0-3]), (%r)?[0-3]\z`)
	isBz         = regexp.MustCompile(`\Abz (%r)?[0-3], (L[0-9]+)\z`)
	isLabel      = regexp.MustCompile(`\A(L[0-9]+):\z`)
)

// noted is what the second reading counts.
type noted struct {
	reads, writes, sc, events, count, labels int
	open                                     []string
	blocks                                   []string
	lines, bars                              []int
}

func (c *noted) takes(s string, at int) bool {
	last := len(c.bars) - 1
	if m := isThreadLine.FindStringSubmatch(s); m != nil {
		c.blocks = append(c.blocks, m[1])
		c.lines = append(c.lines, at)
		c.bars = append(c.bars, 0)
		c.count = 0
		return len(c.open) == 0 && len(c.bars) <= 4
	}
	if m := isLabel.FindStringSubmatch(s); m != nil {
		n := len(c.open) - 1
		if n < 0 || c.open[n] != m[1] {
			return false
		}
		c.open = c.open[:n]
		return true
	}
	c.count++
	if last < 0 || c.count > 40 {
		return false
	}
	if m := isBz.FindStringSubmatch(s); m != nil {
		c.labels++
		c.open = append(c.open, m[2])
		return m[2] == fmt.Sprintf("L%d", c.labels) && len(c.open) <= 2
	}
	switch {
	case isBarSync.MatchString(s):
		c.bars[last]++
		c.events += 2
		return len(c.open) == 0
	case isLd.MatchString(s):
		c.reads++
	case isSt.MatchString(s):
		c.writes++
	case isAtom.MatchString(s):
		c.reads++
		c.writes++
	case isFenceLine.MatchString(s):
		c.events++
		c.sc += strings.Count(s, ".sc.")
	default:
		return isOfRegs.MatchString(s)
	}
	return true
}

// instructionFault answers P11's fault of a text.
func instructionFault(s string) (api.Errno, int) {
	if len(s) > 2000 {
		return api.ErrLong, 0
	}
	var c noted
	lines := strings.Split(s, "\n")
	for i, l := range lines[:len(lines)-1] {
		if !c.takes(l, i+1) {
			return api.ErrSyntax, i + 1
		}
	}
	if lines[len(lines)-1] != "" || len(c.open) > 0 || s == "" {
		return api.ErrSyntax, len(lines)
	}
	for i, b := range c.blocks {
		if c.bars[i] != c.bars[slices.Index(c.blocks, b)] || c.bars[i] > 2 {
			return api.ErrBarrier, c.lines[i]
		}
	}
	if c.reads > 4 || c.writes > 3 || c.sc > 3 || c.events > 50 {
		return api.ErrLimit, 0
	}
	return api.OK, 0
}

// someInstructions lays lines together, so that each kind of fault comes up.
func someInstructions(r *rand.Rand, lines []line) string {
	s := ".thread 0\n"
	labels := 0
	var open []int
	fences := r.Intn(3) == 0
	calm := r.Intn(2) == 0 // few faults of lines and barriers
	for range r.Intn(24) {
		n := r.Intn(80)
		switch {
		case calm && (n < 10 && len(open) > 0 || n < 18 && len(open) > 1 || n >= 34 && n < 46):
		case n < 10:
			s += one(r, ".thread 0\n", ".thread 1\n")
		case n < 18:
			labels++
			open = append(open, labels)
			s += fmt.Sprintf("bz %s, L%d\n", one(r, "%r0", "1", "0"), labels+(r.Intn(30)+1)/30)
		case n < 34 && len(open) > 0:
			k := len(open) - 1 - (r.Intn(20)+1)/20*r.Intn(len(open))
			s += fmt.Sprintf("L%d:\n", open[k])
			open = open[:len(open)-1]
		case n < 36:
			s += fmt.Sprintf("L%d:\n", r.Intn(3))
		case n < 46:
			s += "bar.sync\n"
		case n < 48:
			s += "fence.sc.gpu\n"
		case n < 64 && fences:
			s += strings.Repeat("fence.acq_rel.cta\n", r.Intn(20))
		case n < 66:
			s += "mov %r1, %r2\n"
		default:
			s += lines[r.Intn(len(lines))].instruction + "\n"
		}
	}
	if calm || r.Intn(3) > 0 {
		for i := range open {
			s += fmt.Sprintf("L%d:\n", open[len(open)-1-i])
		}
	}
	if r.Intn(12) == 0 {
		i := r.Intn(len(s))
		s = s[:i] + string([]byte{byte(r.Intn(256))}) + s[i+1:]
	}
	if r.Intn(20) == 0 {
		s = s[:r.Intn(len(s)+1)]
	}
	return s
}

// wantInstructionFault holds Target's fault against the second reading.
func wantInstructionFault(t *testing.T, s string) api.Errno {
	t.Helper()
	e, at := instructionFault(s)
	o, clash, e2, at2 := kernels.Target(s)
	if e != e2 || at != at2 || (o == nil) != (e != api.OK) || (clash && e != api.OK) {
		t.Fatalf("P11: Target(%q) = %v, %v, %d, line %d, want %d, line %d", s, o, clash, e2, at2, e, at)
	}
	return e
}

func TestInstructionsAgainstASecondReading(t *testing.T) {
	r := rand.New(rand.NewSource(4))
	lines := allLines()
	var met [6]int
	for range 60000 {
		met[wantInstructionFault(t, someInstructions(r, lines))]++
	}
	for _, e := range []api.Errno{api.OK, api.ErrSyntax, api.ErrBarrier, api.ErrLimit} {
		if met[e] < 300 {
			t.Errorf("fault %d came up %d times alone", e, met[e])
		}
	}
}

// FuzzTarget: P1 at any bytes. Its seeds run with the other tests.
func FuzzTarget(f *testing.F) {
	for _, s := range []string{"", "\n", "\n\n", " ", ",", ", ", "ld", "ld.", "ld.weak", "ld.weak ", "st.weak [x],", "atom.", "atom.add.", "fence.", "bz", "bz 0,", "bz 0, L1", "L1:", "L", ":", "mov", "add %r0, ", "\x00", "\xff\n"} {
		f.Add(s)
		f.Add(".thread 0\n" + s + "\n")
		f.Add(".thread 1\nbz 1, L1\n" + s + "\nL1:\n")
	}
	for _, c := range examples() {
		a, _, _ := kernels.Compile(long(c.s), 1)
		f.Add(a)
	}
	f.Fuzz(func(t *testing.T, s string) {
		wantInstructionFault(t, s)
		a, x, _, _ := kernels.Target(s)
		b, y, _, _ := kernels.Target(s)
		if !reflect.DeepEqual(a, b) || x != y {
			t.Errorf("P1: Target(%q) = %v, %v, then %v, %v", s, a, x, b, y)
		}
	})
}
