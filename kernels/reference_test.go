package kernels_test

import (
	"math/rand"
	"regexp"
	"strings"
	"testing"

	"kernels/api"
	"kernels/kernels"
)

// A second reading of P2 and P3, by patterns, to hold against the first.
var (
	isThread  = regexp.MustCompile(`\Athread ([01])\z`)
	isLoad    = regexp.MustCompile(`\Ar[0-3] = load [xyz] (weak|(relaxed|acquire) (block|device))\z`)
	isStore   = regexp.MustCompile(`\Astore [xyz] (r[0-3]|[0-3]) (weak|(relaxed|release) (block|device))\z`)
	isStep    = regexp.MustCompile(`\Ar[0-3] = (add|swap) [xyz] (r[0-3]|[0-3]) (relaxed|acquire|release|acqrel) (block|device)\z`)
	isFence   = regexp.MustCompile(`\Afence (acqrel|sc) (block|device)\z`)
	isBarrier = regexp.MustCompile(`\Abarrier\z`)
	isSum     = regexp.MustCompile(`\Ar[0-3] = (r[0-3]|[0-3])( (\+|-|==) (r[0-3]|[0-3]))?\z`)
	isIf      = regexp.MustCompile(`\Aif (r[0-3]|[0-3])\z`)
	isEnd     = regexp.MustCompile(`\Aend\z`)
)

// seen is what the second reading counts.
type seen struct {
	threads, stmts, depth, inner int
	reads, writes, sc            int
	blocks                       []string
	lines, barriers              []int
}

func (c *seen) takes(s string, at int) bool {
	last := len(c.barriers) - 1
	if m := isThread.FindStringSubmatch(s); m != nil {
		c.threads++
		c.stmts = 0
		c.blocks = append(c.blocks, m[1])
		c.lines = append(c.lines, at)
		c.barriers = append(c.barriers, 0)
		return c.depth == 0 && c.threads <= 4
	}
	if isEnd.MatchString(s) {
		c.depth--
		return c.threads > 0 && c.depth >= 0
	}
	c.stmts++
	if c.threads == 0 || c.stmts > 8 {
		return false
	}
	switch {
	case isIf.MatchString(s):
		c.depth++
		return c.depth <= 2
	case isBarrier.MatchString(s):
		c.barriers[last]++
		if c.depth > 0 && c.inner == 0 {
			c.inner = at
		}
	case isLoad.MatchString(s):
		c.reads++
	case isStore.MatchString(s):
		c.writes++
	case isStep.MatchString(s):
		c.reads++
		c.writes++
	case isFence.MatchString(s):
		c.sc += strings.Count(s, "sc")
	default:
		return isSum.MatchString(s)
	}
	return true
}

// fault answers P3's fault of a text.
func fault(s string) (api.Errno, int) {
	if len(s) > 2000 {
		return api.ErrLong, 0
	}
	var c seen
	lines := strings.Split(s, "\n")
	for i, l := range lines[:len(lines)-1] {
		if !c.takes(l, i+1) {
			return api.ErrSyntax, i + 1
		}
	}
	if lines[len(lines)-1] != "" || c.depth > 0 || s == "" {
		return api.ErrSyntax, len(lines)
	}
	if c.inner > 0 {
		return api.ErrBarrier, c.inner
	}
	first := map[string]int{}
	for i, b := range c.blocks {
		if _, ok := first[b]; !ok {
			first[b] = c.barriers[i]
		}
		if c.barriers[i] != first[b] || c.barriers[i] > 2 {
			return api.ErrBarrier, c.lines[i]
		}
	}
	if c.reads > 4 || c.writes > 3 || c.sc > 3 {
		return api.ErrLimit, 0
	}
	return api.OK, 0
}

// someText lays lines together, so that each kind of fault comes up.
func someText(r *rand.Rand, lines []line) string {
	s := "thread 0\n"
	for range r.Intn(24) {
		switch n := r.Intn(40); {
		case n < 6:
			s += []string{"thread 0\n", "thread 1\n"}[r.Intn(2)]
		case n < 10:
			s += "if r0\n"
		case n < 14:
			s += "end\n"
		case n < 18:
			s += "barrier\n"
		case n < 20:
			s += "fence sc device\n"
		case n < 30:
			s += "r1 = r2\n"
		default:
			s += lines[r.Intn(len(lines))].kernel + "\n"
		}
	}
	if r.Intn(12) == 0 {
		i := r.Intn(len(s))
		s = s[:i] + string([]byte{byte(r.Intn(256))}) + s[i+1:]
	}
	if r.Intn(20) == 0 {
		s = s[:r.Intn(len(s)+1)]
	}
	return s
}

func TestAgainstASecondReading(t *testing.T) {
	r := rand.New(rand.NewSource(1))
	lines := allLines()
	var met [6]int
	for range 200000 {
		s := someText(r, lines)
		way := r.Intn(api.Ways)
		e, at := fault(s)
		met[e]++
		a, e2, at2 := kernels.Compile(s, way)
		if e != e2 || at != at2 || (a == "") != (e != api.OK) {
			t.Fatalf("P3: Compile(%q, %d) = %q, %d, line %d, want %d, line %d", s, way, a, e2, at2, e, at)
		}
		if e == api.OK {
			continue
		}
		if o, clash, e2, at2 := kernels.Source(s); o != nil || clash || e != e2 || at != at2 {
			t.Fatalf("P7: Source(%q) = %v, %v, %d, line %d, want %d, line %d", s, o, clash, e2, at2, e, at)
		}
	}
	for _, e := range []api.Errno{api.OK, api.ErrSyntax, api.ErrBarrier, api.ErrLimit} {
		if met[e] < 100 {
			t.Errorf("fault %d came up %d times alone", e, met[e])
		}
	}
}

// FuzzCompile: P1 at any bytes. Its seeds run with the other tests.
func FuzzCompile(f *testing.F) {
	for _, s := range []string{"", "\n", "\n\n", " ", "=", "r0 =", "r0 = ", "store", "store x", "store x 1", "fence", "if", "thread", "r0 = load", "r0 = add x", "r0 = add x 1", "r0 = swap", "r", "\x00", "\xff\n"} {
		f.Add(s, 0)
		f.Add("thread 0\n"+s+"\n", 3)
	}
	f.Fuzz(func(t *testing.T, s string, way int) {
		e, at := fault(s)
		if way < 0 || way > 3 {
			e, at = api.ErrArg, 0
		}
		a, e2, at2 := kernels.Compile(s, way)
		b, _, _ := kernels.Compile(s, way)
		if e != e2 || at != at2 || (a == "") != (e != api.OK) || a != b {
			t.Errorf("P1: Compile(%q, %d) = %q, %d, line %d, want %d, line %d", s, way, a, e2, at2, e, at)
		}
	})
}
