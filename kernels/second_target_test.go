package kernels_test

import (
	"math/rand"
	"reflect"
	"slices"
	"strings"
	"testing"

	"kernels/api"
	"kernels/kernels"
)

// A second reading of P12, straight from the words, to hold against the
// first. It takes the words of kernels, of which there may be more than a
// kernel may have.

// The rules of P12, so that one may be left out.
const (
	everyRule  = -1
	ownCause   = 0 // nothing is its own cause
	behindIt   = 1 // a cause of a write stands behind it
	fenceOrder = 2 // a cause of an sc fence stands behind it
	readsIt    = 3 // a read is a cause of what it reads
	missesIt   = 4 // what a read misses is a cause of it
	oneByOne   = 5 // a circle of one variable
	stepsSplit = 6 // steps
	rulesInAll = 7
)

// sight is a candidate of the target: a picture with an order of its sc
// fences, and what leads where in it.
type sight struct {
	*picture
	relations
	fences      []int
	base, cause table
}

func scFencesOf(p *picture) []int {
	var all []int
	for i, e := range p.events {
		if e.kind == "fence" && e.order == "sc" {
			all = append(all, i)
		}
	}
	return all
}

// fenceAhead: a stands ahead of b in the order of sc fences, and they are
// strong to each other.
func (s *sight) fenceAhead(a, b int) bool {
	i, k := slices.Index(s.fences, a), slices.Index(s.fences, b)
	return i >= 0 && k >= 0 && i < k && s.strong[a][b]
}

// lookAt makes base and cause.
func (s *sight) lookAt() {
	n := len(s.events)
	one := s.table(func(a, b int) bool { return false })
	for a := range n {
		for b := range n {
			if !s.tells[a][b] && !s.gathers[a][b] && !s.fenceAhead(a, b) {
				continue
			}
			for p := range n {
				for q := range n {
					if (p == a || s.ahead[p][a]) && (q == b || s.ahead[b][q]) {
						one[p][q] = true
					}
				}
			}
		}
	}
	s.base = closed(one)
	s.cause = s.table(func(a, b int) bool {
		if s.base[a][b] || s.ahead[a][b] {
			return true
		}
		for r := range n {
			if s.events[a].kind == "write" && s.sees[r][a] && s.base[r][b] {
				return true
			}
		}
		return false
	})
}

// bars tells whether a rule bars the candidate.
func (s *sight) bars(rule int) bool {
	for a := range s.events {
		for b := range s.events {
			if !s.cause[a][b] {
				continue
			}
			if rule == ownCause && a == b || rule == behindIt && s.behind[b][a] || rule == fenceOrder && s.fenceAhead(b, a) ||
				rule == readsIt && s.picture.reads[a] == b || rule == missesIt && s.misses[b][a] {
				return true
			}
		}
	}
	switch rule {
	case oneByOne:
		for _, v := range variables {
			of := func(a int) bool { return isOneOf(s.events[a].kind, "read", "write") && s.events[a].variable == v }
			if circle(s.table(func(a, b int) bool {
				return of(a) && of(b) && (s.ahead[a][b] || s.communicates[a][b] && s.strong[a][b])
			})) {
				return true
			}
		}
	case stepsSplit:
		return splits(s.picture, s.relations)
	}
	return false
}

// sights hands each candidate in which nothing hangs on itself to each.
func sights(text string, each func(*sight)) {
	pictures(text, func(p *picture) {
		r := relationsOf(p)
		if hangsOnItself(p, r) {
			return
		}
		r.sees = seesOf(p, r)
		r.tells = tellsOf(p, r)
		for _, order := range permutations(scFencesOf(p)) {
			s := &sight{picture: p, relations: r, fences: order}
			s.lookAt()
			each(s)
		}
	})
}

// barred is which rules bar a candidate.
func (s *sight) barred() [rulesInAll]bool {
	var all [rulesInAll]bool
	for rule := range all {
		all[rule] = s.bars(rule)
	}
	return all
}

// secondTarget is what Target should answer of a text without a fault, in the
// words of kernels, if there were not the rule that is left out; and how many
// candidates may not be.
func secondTarget(text string, leftOut int) ([][]int, bool, int) {
	var all [][]int
	any := false
	refused := 0
	sights(text, func(s *sight) {
		bars := s.barred()
		if leftOut != everyRule {
			bars[leftOut] = false
		}
		if slices.Contains(bars[:], true) {
			refused++
			return
		}
		all = append(all, s.outcome)
		any = any || clash(s.picture, s.relations, s.cause)
	})
	slices.SortFunc(all, slices.Compare)
	return slices.CompactFunc(all, slices.Equal), any, refused
}

// wordsOf are instructions in the words of kernels.
func wordsOf(s string) string {
	known := map[string]string{}
	for _, l := range allLines() {
		known[l.instruction] = l.kernel
	}
	text := ""
	for l := range strings.Lines(s) {
		l = strings.TrimSuffix(l, "\n")
		switch {
		case l[0] == '.':
			text += l[1:] + "\n"
		case l[0] == 'L':
			text += "end\n"
		case strings.HasPrefix(l, "bz "):
			text += "if " + strings.TrimPrefix(strings.Split(l[3:], ",")[0], "%") + "\n"
		default:
			text += known[l] + "\n"
		}
	}
	return text
}

// wantSecondTarget holds Target against the second reading, of instructions
// and of the same in the words of kernels; it answers whether there is a
// clash, and how many candidates may not be.
func wantSecondTarget(t *testing.T, s, words string) (bool, int) {
	t.Helper()
	o, clash, e, line := kernels.Target(s)
	want, wantClash, refused := secondTarget(words, everyRule)
	if e != api.OK || line != 0 || !reflect.DeepEqual(o, want) || clash != wantClash {
		t.Fatalf("P12: Target(%q) = %v, %v, %d, %d, want %v, %v", s, o, clash, e, line, want, wantClash)
	}
	return clash, refused
}

// longKernel is in the words of kernels, but has more statements than they
// may have.
func longKernel(r *rand.Rand) string {
	s := someKernel(r)
	if r.Intn(2) == 0 {
		s = litmus(r)
	}
	text := ""
	open := 0
	for l := range strings.Lines(s) {
		text += l
		switch {
		case strings.HasPrefix(l, "if "):
			open++
		case l == "end\n":
			open--
		}
		for r.Intn(3) == 0 {
			text += one(r, "fence acqrel block\n", "fence acqrel device\n", "r3 = r3 + 1\n")
			if open < 2 {
				text += one(r, "", "", "if r0\nend\n", "if r0\nfence acqrel device\nend\n")
			}
		}
	}
	return text
}

func TestTargetAgainstASecondReading(t *testing.T) {
	r := rand.New(rand.NewSource(5))
	known := instructionsOfLines()
	clashes := 0
	refusing := 0
	n := 1200
	for i := range n {
		s := litmus(r)
		way := r.Intn(api.Ways)
		switch i % 4 {
		case 0:
			s = someKernel(r)
		case 1:
			s = longKernel(r)
			way = 0
		}
		lines := strings.Split(strings.TrimSuffix(s, "\n"), "\n")
		if way > 0 {
			lines = kernelSecond(s, way)
		}
		clash, refused := wantSecondTarget(t, instructionsOf(lines, known), strings.Join(lines, "\n")+"\n")
		if clash {
			clashes++
		}
		if refused > 0 {
			refusing++
		}
	}
	if clashes < n/10 || clashes > n*9/10 || refusing < n/2 {
		t.Errorf("of %d texts %d clash, %d have candidates that may not be", n, clashes, refusing)
	}
}

// TestCompiledKernels: of what does not clash nothing comes out of what it is
// compiled into, in any way, but what may come out of the kernel.
func TestCompiledKernels(t *testing.T) {
	r := rand.New(rand.NewSource(6))
	calm := 0
	for i := range 1500 {
		s := litmus(r)
		if i%3 == 0 {
			s = someKernel(r)
		}
		may, clash, e, _ := kernels.Source(s)
		if e != api.OK {
			t.Fatalf("P7: Source(%q): %d", s, e)
		}
		for way := range api.Ways {
			a, _, _ := kernels.Compile(s, way)
			o, clash2, e, line := kernels.Target(a)
			if e != api.OK || line != 0 || len(o) == 0 {
				t.Fatalf("P11: Target(%q): %v, %d, line %d", a, o, e, line)
			}
			if clash {
				continue
			}
			calm++
			for _, x := range o {
				if clash2 || !slices.ContainsFunc(may, func(y []int) bool { return slices.Equal(x, y) }) {
					t.Fatalf("P12: Target(Compile(%q, %d)): %v does not come out of the kernel; clash %v", s, way, x, clash2)
				}
			}
		}
	}
	if calm < 1000 {
		t.Errorf("only %d texts are of kernels that do not clash", calm)
	}
}

// FuzzRules goes on trying texts of instructions for as long as it is let.
func FuzzRules(f *testing.F) {
	f.Add(int64(1), true)
	f.Add(int64(1), false)
	known := instructionsOfLines()
	f.Fuzz(func(t *testing.T, seed int64, more bool) {
		r := rand.New(rand.NewSource(seed))
		s := litmus(r)
		if more {
			s = longKernel(r)
		}
		wantSecondTarget(t, instructionsOf(strings.Split(strings.TrimSuffix(s, "\n"), "\n"), known), s)
	})
}
