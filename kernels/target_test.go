package kernels_test

import (
	"reflect"
	"slices"
	"strings"
	"testing"

	"kernels/api"
	"kernels/kernels"
)

// wide: a slash is a line's end, rlx stands for relaxed and fence for
// fence.acq_rel.gpu.
func wide(s string) string {
	return text(strings.NewReplacer("rlx", "relaxed", "fence/", "fence.acq_rel.gpu/").Replace(s))
}

// asksOfTarget asks of texts of instructions what may come out of them.
func asksOfTarget(t *testing.T, promise string, list []want) {
	t.Helper()
	for _, c := range list {
		o, clash, e, line := kernels.Target(wide(c.s))
		if e != api.OK || line != 0 || len(o) == 0 {
			t.Errorf("%s: %s: Target(%q) = %v, %d, line %d", promise, c.what, c.s, o, e, line)
			continue
		}
		if hasOutcome(o, c.regs) != c.may || clash != c.clash {
			t.Errorf("%s: %s: Target(%q): may be %v, want %v; clash %v, want %v", promise, c.what, c.s, hasOutcome(o, c.regs), c.may, clash, c.clash)
		}
	}
}

// The first lines of threads.
const (
	in0 = ".thread 0/"
	in1 = ".thread 1/"
)

// passing are instructions of which thread 0 writes x, then y, and thread 1
// reads y, then x.
func passing(one, two string) string {
	return in0 + "st.rlx.gpu [x], 1/" + one + "st.rlx.gpu [y], 1/" + in1 + "ld.rlx.gpu %r0, [y]/" + two + "ld.rlx.gpu %r1, [x]/"
}

// meeting are instructions of two threads that each write one variable and
// read the other.
func meeting(one, two string) string {
	return in0 + "st.rlx.gpu [x], 1/" + one + "ld.rlx.gpu %r0, [y]/" + in1 + "st.rlx.gpu [y], 1/" + two + "ld.rlx.gpu %r0, [x]/"
}

// TestCompiledExamples: of what Compile makes of the document's examples, in
// any way, Target says the same as Source.
func TestCompiledExamples(t *testing.T) {
	for _, c := range examples() {
		for way := range api.Ways {
			a, e, _ := kernels.Compile(long(c.s), way)
			o, clash, e2, line := kernels.Target(a)
			if e != api.OK || e2 != api.OK || line != 0 {
				t.Errorf("Examples: Target(Compile(%q, %d)): %d, %d, line %d", c.s, way, e, e2, line)
				continue
			}
			if hasOutcome(o, c.regs) != c.may || clash != c.clash {
				t.Errorf("Examples: %s: Target(Compile(%q, %d)): may be %v, clash %v", c.what, c.s, way, hasOutcome(o, c.regs), clash)
			}
		}
	}
	for way := range api.Ways {
		a, _, _ := kernels.Compile(text("thread 0/store x 1 weak/r0 = load x weak/"), way)
		o, clash, e, line := kernels.Target(a)
		if !reflect.DeepEqual(o, [][]int{{1, 0, 0, 0, 1, 0, 0}}) || clash || e != api.OK || line != 0 {
			t.Errorf("Examples: way %d: %v, %v, %d, %d", way, o, clash, e, line)
		}
	}
}

// alone is a text of which one rule bars an outcome that nothing else bars,
// and a text that is like it but for what it takes to be barred.
type alone struct {
	rule    int
	what    string
	s       string
	regs    []int
	almost  string
	clashes bool // of the text that is like it
}

func alones() []alone {
	f := "fence/"
	gather := func(one, two string) string { return in0 + one + "bar.sync/" + in0 + "bar.sync/" + two }
	apart := func(one, two string) string { return in0 + one + "bar.sync/" + in1 + "bar.sync/" + two }
	lastIs1 := []int{2, 1, 1} // y at the end
	return []alone{
		{missesIt, "a message by fences", passing(f, f), stale, passing("", f), false},
		{missesIt, "a message by a barrier", gather("st.weak [x], 1/", "ld.weak %r0, [x]/"), []int{1, 0, 0}, apart("st.weak [x], 1/", "ld.weak %r0, [x]/"), true},
		{missesIt, "a message by sc fences", meeting("fence.sc.gpu/", "fence.sc.gpu/"), bothNil, meeting("fence.sc.gpu/", "fence/"), false},
		{missesIt, "a thread's own write by another's word",
			in0 + "st.release.gpu [x], 1/" + in1 + "ld.acquire.gpu %r0, [x]/ld.weak %r1, [x]/", stale, in0 + "st.release.gpu [x], 1/" + in1 + "ld.rlx.gpu %r0, [x]/ld.weak %r1, [x]/", true},
		{readsIt, "by release and acquire",
			in0 + "ld.rlx.cta %r0, [x]/st.release.gpu [y], 1/" + in1 + "ld.acquire.gpu %r0, [y]/st.rlx.gpu [x], 1/", bothOne,
			in0 + "ld.rlx.cta %r0, [x]/st.release.gpu [y], 1/" + in1 + "ld.rlx.gpu %r0, [y]/st.rlx.gpu [x], 1/", true},
		{readsIt, "by fences, of a weak one",
			in0 + "ld.weak %r0, [x]/fence/st.rlx.gpu [y], 1/" + in1 + "ld.rlx.gpu %r0, [y]/fence/st.rlx.gpu [x], 1/", bothOne,
			in0 + "ld.weak %r0, [x]/fence/st.rlx.gpu [y], 1/" + in1 + "ld.rlx.gpu %r0, [y]/st.rlx.gpu [x], 1/", true},
		{readsIt, "by a barrier", gather("ld.weak %r0, [x]/", "st.weak [x], 1/"), []int{0, 0, 1}, apart("ld.weak %r0, [x]/", "st.weak [x], 1/"), true},
		{behindIt, "by a barrier", gather("st.rlx.gpu [y], 1/", "st.rlx.gpu [y], 2/"), lastIs1, apart("st.rlx.gpu [y], 1/", "st.rlx.gpu [y], 2/"), false},
		{behindIt, "by a barrier, of weak ones", gather("st.weak [y], 1/", "st.weak [y], 2/"), lastIs1, apart("st.weak [y], 1/", "st.weak [y], 2/"), true},
		{behindIt, "by way of one who saw it",
			in0 + "st.rlx.gpu [x], 1/" + in1 + "ld.rlx.gpu %r0, [x]/st.release.gpu [y], 1/" + in1 + "ld.acquire.gpu %r0, [y]/st.rlx.gpu [x], 2/", []int{1, 0, 1, 2, 0, 1, 3, 0, 1},
			in0 + "st.rlx.gpu [x], 1/" + in1 + "ld.rlx.cta %r0, [x]/st.release.gpu [y], 1/" + in1 + "ld.acquire.gpu %r0, [y]/st.rlx.gpu [x], 2/", true},
		{oneByOne, "two reads backwards",
			in0 + "st.rlx.gpu [x], 1/" + in1 + "ld.rlx.gpu %r0, [x]/ld.rlx.gpu %r1, [x]/", stale, in0 + "st.weak [x], 1/" + in1 + "ld.rlx.gpu %r0, [x]/ld.rlx.gpu %r1, [x]/", true},
		{oneByOne, "two reads backwards, the second not strong",
			in0 + "st.rlx.gpu [x], 1/" + in0 + "ld.rlx.cta %r0, [x]/ld.rlx.cta %r1, [x]/", stale, in0 + "st.rlx.gpu [x], 1/" + in0 + "ld.rlx.cta %r0, [x]/ld.weak %r1, [x]/", true},
		{oneByOne, "a read, and a write ahead of what it reads",
			in0 + "ld.rlx.gpu %r0, [x]/st.rlx.gpu [x], 2/" + in1 + "st.rlx.gpu [x], 1/", []int{0, 0, 1, 2, 0, 1}, in0 + "ld.rlx.gpu %r0, [x]/st.rlx.gpu [x], 2/" + in1 + "st.rlx.cta [x], 1/", true},
		{stepsSplit, "two adds of one value",
			in0 + "atom.add.rlx.gpu %r0, [x], 1/" + in1 + "atom.add.rlx.gpu %r0, [x], 1/", bothNil, in0 + "atom.add.rlx.gpu %r0, [x], 1/" + in1 + "ld.rlx.gpu %r0, [x]/st.rlx.gpu [x], 1/", false},
		{stepsSplit, "two swaps that are not strong",
			in0 + "atom.exch.rlx.gpu %r0, [x], 1/" + in1 + "atom.exch.rlx.cta %r0, [x], 2/", bothNil, in0 + "atom.exch.rlx.gpu %r0, [x], 1/" + in1 + "st.rlx.cta [x], 2/", true},
		{stepsSplit, "a store within a step",
			in0 + "atom.add.rlx.gpu %r0, [x], 1/" + in1 + "st.weak [x], 2/ld.weak %r0, [x]/", []int{0, 0, 0, 1, 0, 1}, in0 + "ld.rlx.gpu %r0, [x]/st.rlx.gpu [x], 1/" + in1 + "st.weak [x], 2/ld.weak %r0, [x]/", true},
	}
}

// TestRulesOfTheTarget: each rule bars what no other rule does, and no more.
func TestRulesOfTheTarget(t *testing.T) {
	for _, c := range alones() {
		o, _, e, line := kernels.Target(wide(c.s))
		if e != api.OK || line != 0 || len(o) == 0 || hasOutcome(o, c.regs) {
			t.Errorf("P12: %s: Target(%q): %v, %d, line %d", c.what, c.s, o, e, line)
			continue
		}
		without, _, _ := secondTarget(wordsOf(wide(c.s)), c.rule)
		if !hasOutcome(without, c.regs) {
			t.Errorf("P12: %s: Target(%q): not rule %d alone bars it", c.what, c.s, c.rule)
		}
		asksOfTarget(t, "P12", []want{{"not " + c.what, c.almost, c.regs, true, c.clashes}})
	}
}

// TestRulesThatHoldTogether: what more than one rule bars. Two rules have no
// text that they alone bar, so that only the tests of package target show that
// they are there. What is its own cause by no order of the fences, the other
// rules bar too. What is its own cause by such an order, and with it a fence
// that stands ahead of a cause of it, has more causes than with the fences put
// in the order of their causes, which then lets the same come out.
func TestRulesThatHoldTogether(t *testing.T) {
	asksOfTarget(t, "P12", []want{
		{"its own cause", in0 + "ld.acquire.gpu %r0, [y]/st.release.gpu [x], 1/" + in1 + "ld.acquire.gpu %r0, [x]/st.release.gpu [y], 1/", bothOne, false, false},
		{"its own cause, by fences", in0 + "ld.rlx.gpu %r0, [y]/fence/st.rlx.gpu [x], 1/" + in1 + "ld.rlx.gpu %r0, [x]/fence/st.rlx.gpu [y], 1/", bothOne, false, false},
		{"its own cause, seen by itself", in0 + "ld.rlx.gpu %r0, [x]/st.release.gpu [y], 1/" + in1 + "ld.acquire.gpu %r0, [y]/st.rlx.gpu [x], 1/", bothOne, false, false},
		{"half of it", in0 + "ld.acquire.gpu %r0, [y]/st.rlx.gpu [x], 1/" + in1 + "ld.acquire.gpu %r0, [x]/st.rlx.gpu [y], 1/", bothOne, true, false},
		{"a read of a later write", in0 + "ld.weak %r0, [x]/st.weak [x], 1/", []int{0, 0, 1}, false, false},
		{"a read of an older write", in0 + "st.weak [x], 1/st.weak [x], 2/ld.weak %r0, [x]/", []int{0, 0, 1}, false, false},
		{"a read of a first write", in0 + "st.weak [x], 1/ld.weak %r0, [x]/", []int{0, 0, 0}, false, false},
		{"a write behind a later one", in0 + "st.weak [x], 1/st.weak [x], 2/", []int{1, 0, 1}, false, false},
		{"it hangs on itself", in0 + "ld.rlx.gpu %r0, [y]/st.rlx.gpu [x], %r0/" + in1 + "ld.rlx.gpu %r0, [x]/st.rlx.gpu [y], %r0/", bothOne, false, false},
		{"by way of a bz", in0 + "ld.rlx.gpu %r0, [y]/bz %r0, L1/L1:/st.rlx.gpu [x], 1/" + in1 + "ld.rlx.gpu %r0, [x]/bz %r0, L2/st.rlx.gpu [y], 1/L2:/", bothOne, false, false},
		{"it does not hang on itself", in0 + "ld.rlx.gpu %r0, [y]/bz %r1, L1/L1:/st.rlx.gpu [x], 1/" + in1 + "ld.rlx.gpu %r0, [x]/bz %r0, L2/st.rlx.gpu [y], 1/L2:/", bothOne, true, false},
	})
}

func TestBase(t *testing.T) {
	sc := "fence.sc.gpu/"
	chain := func(load, store string) string {
		return in0 + "st.rlx.gpu [x], 1/st.release.gpu [y], 1/" + in1 + load + " %r0, [y]/" + store + " [z], %r0/" + in0 + "ld.acquire.gpu %r0, [z]/ld.rlx.gpu %r1, [x]/"
	}
	// y tells thread 1's fence, which stands ahead of thread 2's, as z shows.
	over := func(first, second string) string {
		return in0 + "st.rlx.gpu [x], 1/fence/st.rlx.gpu [y], 1/" + in1 + "ld.rlx.gpu %r0, [y]/" + first + "ld.rlx.gpu %r1, [z]/" + in0 + "st.rlx.gpu [z], 1/" + second + "ld.rlx.gpu %r0, [x]/"
	}
	last := []int{2, 0, 1, 2, 1, 0}
	overLast := []int{1, 0, 1, 1, 1, 0, 2, 0, 0}
	four := []int{2, 0, 1, 2, 1, 0, 3, 0, 1, 3, 1, 0}
	readers := func(one, two string) string {
		return in0 + "st.rlx.gpu [x], 1/" + in1 + "st.rlx.gpu [y], 1/" + in0 + "ld.rlx.gpu %r0, [x]/" + one + "ld.rlx.gpu %r1, [y]/" + in1 + "ld.rlx.gpu %r0, [y]/" + two + "ld.rlx.gpu %r1, [x]/"
	}
	three := func(b string) string {
		return in0 + "st.rlx.gpu [x], 1/" + sc + "ld.rlx.gpu %r0, [y]/" + in1 + "st.rlx.gpu [y], 1/" + b + "ld.rlx.gpu %r0, [z]/" + in0 + "st.rlx.gpu [z], 1/" + sc + "ld.rlx.gpu %r0, [x]/"
	}
	asksOfTarget(t, "P12", []want{
		{"over two threads", chain("ld.acquire.gpu", "st.release.gpu"), last, false, false},
		{"over two threads, the first not told", chain("ld.rlx.gpu", "st.release.gpu"), last, true, false},
		{"over two threads, the second not told", chain("ld.acquire.gpu", "st.rlx.gpu"), last, true, false},
		{"from a fence that is told to one behind it in the order", over(sc, sc), overLast, false, false},
		{"to a fence that is not sc", over(sc, "fence/"), overLast, true, false},
		{"from a fence that is not sc", over("fence/", sc), overLast, true, false},
		{"to a fence of scope block", over(sc, "fence.sc.cta/"), overLast, true, false},
		{"sc fences of four threads", readers(sc, sc), four, false, false},
		{"one sc fence of four threads", readers(sc, "fence/"), four, true, false},
		{"sc fences of three threads", three(sc), []int{0, 0, 0, 1, 0, 0, 2, 0, 0}, false, false},
		{"sc fences of three threads, one of scope block", three("fence.sc.cta/"), []int{0, 0, 0, 1, 0, 0, 2, 0, 0}, true, false},
		{"two barriers", in0 + "bar.sync/st.weak [x], 1/bar.sync/" + in0 + "bar.sync/bar.sync/ld.weak %r0, [x]/", []int{1, 0, 0}, false, false},
		{"between two barriers", in0 + "bar.sync/st.weak [x], 1/bar.sync/" + in0 + "bar.sync/ld.weak %r0, [x]/bar.sync/", []int{1, 0, 0}, true, true},
		{"a barrier, then a message", in0 + "st.weak [x], 1/bar.sync/" + in0 + "bar.sync/st.release.gpu [y], 1/" + in1 + "ld.acquire.gpu %r0, [y]/bz %r0, L1/ld.weak %r1, [x]/L1:/", last, false, false},
		{"a message, then a barrier", in1 + "st.weak [x], 1/st.release.gpu [y], 1/" + in0 + "ld.acquire.gpu %r0, [y]/bar.sync/" + in0 + "bar.sync/ld.weak %r0, [x]/", []int{1, 0, 1, 2, 0, 0}, false, true},
	})
}

func TestCause(t *testing.T) {
	seen := func(load string) string {
		return in0 + "st.rlx.gpu [x], 1/" + in1 + load + " %r0, [x]/st.release.gpu [y], 1/" + in1 + "ld.acquire.gpu %r0, [y]/ld.rlx.gpu %r1, [x]/"
	}
	last := []int{1, 0, 1, 2, 0, 1, 2, 1, 0}
	asksOfTarget(t, "P12", []want{
		{"what was seen, and told", seen("ld.rlx.gpu"), last, false, false},
		{"what was read but not seen", seen("ld.rlx.cta"), last, true, true},
		{"what was read weakly", seen("ld.weak"), last, true, true},
		{"what was seen, and is not told", in0 + "st.rlx.gpu [x], 1/" + in1 + "ld.rlx.gpu %r0, [x]/ld.weak %r1, [x]/", stale, true, true},
		{"what is ahead of what was seen", in0 + "st.rlx.gpu [z], 1/st.rlx.gpu [x], 1/" + in1 + "ld.rlx.gpu %r0, [x]/st.release.gpu [y], 1/" + in1 + "ld.acquire.gpu %r0, [y]/ld.rlx.gpu %r1, [z]/", last, true, false},
		{"what was seen in a thread that is told", in0 + "st.rlx.gpu [x], 1/" + in1 + "ld.rlx.gpu %r0, [x]/bar.sync/" + in1 + "bar.sync/ld.weak %r0, [x]/", []int{1, 0, 1, 2, 0, 0}, false, true},
		{"what is ahead", in0 + "st.weak [x], 1/mov %r1, 1/st.weak [x], 2/ld.weak %r0, [x]/", []int{0, 0, 2}, true, false},
	})
}

func TestClashOfTheTarget(t *testing.T) {
	passed := func(store, load, weak string) string {
		return in0 + "st.weak [x], 1/" + store + " [y], 1/" + in1 + load + " %r0, [y]/bz %r0, L1/" + weak + "/L1:/"
	}
	witness := func(load string) string {
		return in0 + "st.rlx.gpu [x], 1/" + in1 + load + " %r0, [x]/bz %r0, L1/st.release.gpu [y], 1/L1:/" + in1 + "ld.acquire.gpu %r0, [y]/bz %r0, L2/ld.weak %r1, [x]/L2:/"
	}
	asksOfTarget(t, "P12", []want{
		{"weak, weak", in0 + "st.weak [x], 1/" + in0 + "ld.weak %r0, [x]/", nil, true, true},
		{"weak, gpu", in0 + "st.weak [x], 1/" + in0 + "ld.rlx.gpu %r0, [x]/", nil, true, true},
		{"gpu, weak", in0 + "ld.rlx.gpu %r0, [x]/" + in0 + "st.weak [x], 1/", nil, true, true},
		{"two weak reads", in0 + "ld.weak %r0, [x]/" + in1 + "ld.weak %r0, [x]/", nil, true, false},
		{"two variables", in0 + "st.weak [y], 1/" + in1 + "ld.weak %r0, [x]/", nil, true, false},
		{"two weak writes", in0 + "st.weak [x], 1/" + in1 + "st.weak [x], 1/", nil, true, true},
		{"gpu, gpu", in0 + "st.rlx.gpu [x], 1/" + in1 + "ld.rlx.gpu %r0, [x]/", nil, true, false},
		{"cta, cta, of two", in0 + "st.rlx.cta [x], 1/" + in1 + "ld.rlx.cta %r0, [x]/", nil, true, true},
		{"cta, cta, of one", in0 + "st.rlx.cta [x], 1/" + in0 + "ld.rlx.cta %r0, [x]/", nil, true, false},
		{"a step and a weak read", in0 + "atom.add.rlx.gpu %r0, [x], 1/" + in1 + "ld.weak %r0, [x]/", nil, true, true},
		{"two steps, scope cta", in0 + "atom.add.rlx.gpu %r0, [x], 1/" + in1 + "atom.add.rlx.cta %r0, [x], 1/", nil, true, true},
		{"of one thread", in0 + "ld.weak %r0, [x]/st.weak [x], 1/", nil, true, false},
		{"in a run that never comes", in0 + "st.weak [x], 1/" + in1 + "bz %r0, L1/ld.weak %r0, [x]/L1:/", nil, true, false},
		{"in a run that may not be", in0 + "ld.rlx.gpu %r0, [y]/bz %r0, L1/st.weak [z], 1/st.rlx.gpu [x], 1/L1:/" + in1 + "ld.rlx.gpu %r0, [x]/bz %r0, L2/ld.weak %r1, [z]/st.rlx.gpu [y], 1/L2:/", nil, true, false},
		{"a cause", passed("st.release.gpu", "ld.acquire.gpu", "ld.weak %r1, [x]"), nil, true, false},
		{"no cause", passed("st.release.gpu", "ld.rlx.gpu", "ld.weak %r1, [x]"), nil, true, true},
		{"a cause that is a read", in0 + "ld.weak %r0, [x]/st.release.gpu [y], 1/" + in1 + "ld.acquire.gpu %r0, [y]/bz %r0, L1/st.weak [x], 1/L1:/", nil, true, false},
		{"a cause by way of one who saw it", witness("ld.rlx.gpu"), nil, true, false},
		{"no cause by way of one who only read it", witness("ld.rlx.cta"), nil, true, true},
		{"a barrier", in0 + "st.weak [x], 1/bar.sync/" + in0 + "bar.sync/st.weak [x], 2/", nil, true, false},
		{"with one order of the fences alone", in0 + "st.weak [x], 1/fence.sc.gpu/" + in1 + "fence.sc.gpu/ld.weak %r0, [x]/", nil, true, true},
	})
}

func TestAllOutcomesOfTarget(t *testing.T) {
	for _, c := range []struct {
		s     string
		want  [][]int
		clash bool
	}{
		{".thread 1/", [][]int{{0, 0, 0, 0, 0, 0, 0}}, false},
		{".thread 0/.thread 1/", [][]int{{0, 0, 0, 0, 0, 0, 0, 0, 0, 0, 0}}, false},
		{".thread 0/mov %r3, 2/.thread 1/mov %r0, 3/st.weak [z], %r0/", [][]int{{0, 0, 0, 2, 3, 0, 0, 0, 0, 0, 3}}, false},
		{".thread 0/mov %r0, 3/add %r1, %r0, 2/sub %r2, 0, %r1/seteq %r3, %r2, 3/", [][]int{{3, 1, 3, 1, 0, 0, 0}}, false},
		{".thread 0/mov %r0, 3/mov %r1, %r0/sub %r2, %r1, %r0/seteq %r3, %r2, %r1/", [][]int{{3, 3, 0, 0, 0, 0, 0}}, false},
		{".thread 0/mov %r0, 1/bz %r0, L1/mov %r1, 1/bz %r2, L2/mov %r2, 3/L2:/mov %r3, 2/L1:/st.weak [x], %r3/", [][]int{{1, 1, 0, 2, 2, 0, 0}}, false},
		{".thread 0/bz 0, L1/mov %r1, 1/bz 1, L2/mov %r2, 3/L2:/mov %r3, 2/L1:/st.weak [x], 3/", [][]int{{0, 0, 0, 0, 3, 0, 0}}, false},
		{".thread 0/st.weak [y], 3/st.weak [x], 2/st.weak [z], 1/", [][]int{{0, 0, 0, 0, 2, 3, 1}}, false},
		{".thread 0/st.weak [y], 3/st.weak [y], 2/st.weak [y], 1/", [][]int{{0, 0, 0, 0, 0, 1, 0}}, false},
		{".thread 0/st.rlx.gpu [y], 3/.thread 1/st.rlx.gpu [y], 2/.thread 1/st.rlx.gpu [y], 1/", [][]int{
			{0, 0, 0, 0, 0, 0, 0, 0, 0, 0, 0, 0, 0, 1, 0}, {0, 0, 0, 0, 0, 0, 0, 0, 0, 0, 0, 0, 0, 2, 0}, {0, 0, 0, 0, 0, 0, 0, 0, 0, 0, 0, 0, 0, 3, 0}}, false},
		{".thread 0/atom.exch.rlx.gpu %r0, [y], 3/.thread 1/atom.exch.rlx.gpu %r0, [y], 2/", [][]int{
			{0, 0, 0, 0, 3, 0, 0, 0, 0, 2, 0}, {2, 0, 0, 0, 0, 0, 0, 0, 0, 3, 0}}, false},
		{".thread 0/st.weak [x], 1/.thread 0/ld.weak %r1, [x]/ld.weak %r2, [x]/", [][]int{
			{0, 0, 0, 0, 0, 0, 0, 0, 1, 0, 0}, {0, 0, 0, 0, 0, 0, 1, 0, 1, 0, 0}, {0, 0, 0, 0, 0, 1, 0, 0, 1, 0, 0}, {0, 0, 0, 0, 0, 1, 1, 0, 1, 0, 0}}, true},
		{".thread 0/mov %r1, 1/atom.exch.rlx.cta %r0, [x], %r1/atom.add.acquire.cta %r1, [x], 3/atom.add.release.cta %r2, [x], %r1/", [][]int{{0, 1, 0, 0, 1, 0, 0}}, false},
	} {
		o, clash, e, line := kernels.Target(wide(c.s))
		if !reflect.DeepEqual(o, c.want) || clash != c.clash || e != api.OK || line != 0 {
			t.Errorf("P12: Target(%q) = %v, %v, %d, %d, want %v, %v", c.s, o, clash, e, line, c.want, c.clash)
		}
	}
}

// TestOutcomesOfTargetAreTheCallers writes into all that comes out, and into
// its spare room.
func TestOutcomesOfTargetAreTheCallers(t *testing.T) {
	for _, s := range []string{passing("", ""), meeting("fence/", ""), in0, in0 + "st.weak [x], 1/" + in1 + "ld.weak %r0, [x]/ld.weak %r1, [x]/"} {
		want, _, _, _ := kernels.Target(wide(s))
		got, _, _, _ := kernels.Target(wide(s))
		if !reflect.DeepEqual(got, want) || len(got) == 0 {
			t.Fatalf("P1: Target(%q) = %v, then %v", s, want, got)
		}
		for i := range got {
			row := got[i][:cap(got[i])]
			for k := range row {
				row[k] = 9
			}
			for k := i + 1; k < len(got); k++ {
				if !slices.Equal(got[k], want[k]) {
					t.Errorf("P1: Target(%q): outcomes %d and %d share memory", s, i, k)
				}
			}
		}
		clear(got[:cap(got)])
		if again, _, _, _ := kernels.Target(wide(s)); !reflect.DeepEqual(again, want) {
			t.Errorf("P1: Target(%q) = %v, want %v", s, again, want)
		}
	}
}

// TestGreatestInstructions: the texts with the most candidates and the most
// events come through.
func TestGreatestInstructions(t *testing.T) {
	filled := func(store, load string) string {
		s := ""
		for i := range 4 {
			s += ".thread " + string("01"[i%2]) + "/"
			if i < 3 {
				s += store + many("fence/", 7) + "fence.sc.gpu/"
			} else {
				s += many("fence/", 10)
			}
			s += "bar.sync/bar.sync/" + load
		}
		return s
	}
	for _, c := range []struct {
		s     string
		least int
	}{
		{filled("st.rlx.gpu [x], 0/", "ld.rlx.gpu %r0, [x]/"), 1},
		{filled("st.weak [x], 1/", "ld.weak %r0, [x]/"), 1},
		{filled("st.rlx.gpu [x], %r0/", "ld.rlx.gpu %r0, [x]/"), 1},
		{in0 + many("fence/", 37) + "fence.sc.gpu/fence.sc.gpu/fence.sc.gpu/" + in1 + many("fence/", 10), 1},
		{many(in0+"ld.weak %r0, [x]/st.weak [x], 1/", 3) + in1 + "ld.weak %r0, [x]/" + many("fence/", 39) + in1[:0], 8},
		{many(in1+"atom.add.acq_rel.gpu %r0, [x], %r0/fence.sc.cta/", 3) + in0 + "ld.weak %r0, [x]/", 1},
	} {
		if o, _, e, line := kernels.Target(wide(c.s)); len(o) < c.least || e != api.OK || line != 0 {
			t.Errorf("P1: Target(%q) = %v, %d, line %d", c.s, o, e, line)
		}
	}
}
