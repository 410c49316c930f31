package kernels_test

import (
	"reflect"
	"slices"
	"strings"
	"testing"

	"kernels/api"
	"kernels/kernels"
)

// want is what is asked of a kernel: may such registers come out (thread,
// register, value, as often as there are), and is there a clash? In kernels
// here d stands for device, b for block and rlx for relaxed.
type want struct {
	what, s    string
	regs       []int
	may, clash bool
}

func long(s string) string {
	words := strings.NewReplacer(" d/", " device/", " b/", " block/", "rlx", "relaxed")
	return text(words.Replace(s))
}

func hasOutcome(all [][]int, regs []int) bool {
	return slices.ContainsFunc(all, func(o []int) bool {
		for k := 0; k+2 < len(regs); k += 3 {
			if o[4*regs[k]+regs[k+1]] != regs[k+2] {
				return false
			}
		}
		return true
	})
}

func asksOfSource(t *testing.T, promise string, list []want) {
	t.Helper()
	for _, c := range list {
		o, clash, e, line := kernels.Source(long(c.s))
		if e != api.OK || line != 0 || len(o) == 0 {
			t.Errorf("%s: %s: Source(%q) = %v, %d, line %d", promise, c.what, c.s, o, e, line)
			continue
		}
		if hasOutcome(o, c.regs) != c.may || clash != c.clash {
			t.Errorf("%s: %s: Source(%q): may be %v, want %v; clash %v, want %v", promise, c.what, c.s, hasOutcome(o, c.regs), c.may, clash, c.clash)
		}
	}
}

// Outcomes that the kernels below are asked for.
var (
	stale   = []int{1, 0, 1, 1, 1, 0}
	bothOne = []int{0, 0, 1, 1, 0, 1}
	bothNil = []int{0, 0, 0, 1, 0, 0}
)

// message is a kernel in which thread 0 writes x, then y, and thread 1 reads
// y, then x.
func message(one, two string) string {
	return "thread 0/store x 1 rlx d/" + one + "store y 1 rlx d/thread 1/r0 = load y rlx d/" + two + "r1 = load x rlx d/"
}

func crossing(between string) string {
	return "thread 0/store x 1 rlx d/" + between + "r0 = load y rlx d/thread 1/store y 1 rlx d/" + between + "r0 = load x rlx d/"
}

// examples are those of the document that ask what may come out.
func examples() []want {
	f := "fence acqrel d/"
	return []want{
		{"two stores, two loads", message("", ""), stale, true, false},
		{"with two fences", message(f, f), stale, false, false},
		{"with the first fence", message(f, ""), stale, true, false},
		{"with the second fence", message("", f), stale, true, false},
		{"the first of scope block", message("fence acqrel b/", f), stale, true, false},
		{"the second of scope block", message(f, "fence acqrel b/"), stale, true, false},
		{"crossing", crossing(""), bothNil, true, false},
		{"crossing, fences", crossing(f), bothNil, true, false},
		{"crossing, sc fences", crossing("fence sc d/"), bothNil, false, false},
		{"loads, then stores", "thread 0/r0 = load y rlx d/store x 1 rlx d/thread 1/r0 = load x rlx d/store y 1 rlx d/", bothOne, true, false},
		{"loads, then stores of what was read", "thread 0/r0 = load y rlx d/store x r0 rlx d/thread 1/r0 = load x rlx d/store y r0 rlx d/", bothOne, false, false},
		{"two adds", "thread 0/r0 = add x 1 rlx d/thread 1/r0 = add x 1 rlx d/", bothNil, false, false},
		{"a barrier", "thread 0/store x 1 weak/barrier/thread 0/barrier/r0 = load x weak/", []int{1, 0, 0}, false, false},
		{"barriers of two blocks", "thread 0/store x 1 weak/barrier/thread 1/barrier/r0 = load x weak/", []int{1, 0, 0}, true, true},
		{"release, acquire", "thread 0/store x 1 weak/store y 1 release d/thread 1/r0 = load y acquire d/if r0/r1 = load x weak/end/", stale, false, false},
		{"release of scope block", "thread 0/store x 1 weak/store y 1 release b/thread 1/r0 = load y acquire d/if r0/r1 = load x weak/end/", stale, true, true},
	}
}

func TestExamplesOfSource(t *testing.T) {
	asksOfSource(t, "Examples", examples())
	o, clash, e, line := kernels.Source(long("thread 0/store x 1 weak/r0 = load x weak/"))
	if !reflect.DeepEqual(o, [][]int{{1, 0, 0, 0, 1, 0, 0}}) || clash || e != api.OK || line != 0 {
		t.Errorf("Examples: %v, %v, %d, %d", o, clash, e, line)
	}
}

// round is a kernel in which y may be read as 1 only if x is written 1, by
// thread 1, that read it from x: thread 0 is what stands between its load of
// y into r0 and a store of x.
func round(between string) string {
	return "thread 0/r0 = load y rlx d/" + between + "thread 1/r0 = load x rlx d/store y r0 rlx d/"
}

func TestHangingOnItself(t *testing.T) {
	asksOfSource(t, "P5", []want{
		{"a number", round("store x 1 rlx d/"), bothOne, true, false},
		{"what was read", round("store x r0 rlx d/"), bothOne, false, false},
		{"another register", round("r1 = 1/store x r1 rlx d/"), bothOne, true, false},
		{"by way of a register", round("r1 = r0/store x r1 rlx d/"), bothOne, false, false},
		{"by way of a sum that is always 1", round("r1 = r0 - r0/r1 = r1 + 1/store x r1 rlx d/"), bothOne, false, false},
		{"by way of ==", round("r1 = r0 == 1/store x r1 rlx d/"), bothOne, false, false},
		{"by way of the second operand", round("r1 = 0 + r0/store x r1 rlx d/"), bothOne, false, false},
		{"within an if", round("if r0/store x 1 rlx d/end/"), bothOne, false, false},
		{"behind an if", round("if r0/end/store x 1 rlx d/"), bothOne, false, false},
		{"behind an if that is passed", round("r1 = r0 == 3/if r1/end/store x 1 rlx d/"), bothOne, false, false},
		{"behind an if of another register", round("if r1/end/store x 1 rlx d/"), bothOne, true, false},
		{"an if within one that is passed", round("if 0/if r0/end/end/store x 1 rlx d/"), bothOne, true, false},
		{"an if within one", round("if 1/if r0/end/end/store x 1 rlx d/"), bothOne, false, false},
		{"a swap of what was read", round("r1 = swap x r0 rlx d/"), bothOne, false, false},
		{"a swap of a number", round("r1 = swap x 1 rlx d/"), bothOne, true, false},
		{"an add of what was read", round("r1 = add x r0 rlx d/"), bothOne, false, false},
		{"an add of a number", round("r1 = add x 1 rlx d/"), bothOne, true, false},
		{"a register that a step gave", round("r0 = swap z r0 rlx d/store x 1 rlx d/"), []int{1, 0, 1}, true, false},
		{"an add's own read",
			"thread 0/r0 = add x 0 rlx d/thread 1/r0 = load x rlx d/store y r0 rlx d/thread 0/r0 = load y rlx d/store x r0 rlx d/",
			[]int{0, 0, 1, 1, 0, 1, 2, 0, 1}, false, false},
		{"a swap's own read",
			"thread 0/r0 = swap x 1 rlx d/thread 1/r0 = load x rlx d/store y r0 rlx d/thread 0/r0 = load y rlx d/store x r0 rlx d/",
			[]int{0, 0, 1, 1, 0, 1, 2, 0, 1}, true, false},
	})
}

func TestSeeingAndTelling(t *testing.T) {
	x := "thread 0/store x 1 weak/"
	r := "if r0/r1 = load x weak/end/"
	asksOfSource(t, "P5", []want{
		{"release, acquire", x + "store y 1 release d/thread 1/r0 = load y acquire d/" + r, stale, false, false},
		{"relaxed, acquire", x + "store y 1 rlx d/thread 1/r0 = load y acquire d/" + r, stale, true, true},
		{"release, relaxed", x + "store y 1 release d/thread 1/r0 = load y rlx d/" + r, stale, true, true},
		{"weak, acquire", x + "store y 1 weak/thread 1/r0 = load y acquire d/" + r, stale, true, true},
		{"release, weak", x + "store y 1 release d/thread 1/r0 = load y weak/" + r, stale, true, true},
		{"scope block, one block", x + "store y 1 release b/thread 0/r0 = load y acquire b/" + r, stale, false, false},
		{"scope block of the read alone, one block", x + "store y 1 release d/thread 0/r0 = load y acquire b/" + r, stale, false, false},
		{"scope block of the read alone, two blocks", x + "store y 1 release d/thread 1/r0 = load y acquire b/" + r, stale, true, true},
		{"fences of weak ones", x + "fence acqrel d/store y 1 weak/thread 0/r0 = load y weak/fence acqrel d/" + r, stale, true, true},
		{"a fence, a weak one and acquire", x + "fence sc d/store y 1 weak/thread 0/r0 = load y acquire d/" + r, stale, true, true},
		{"a fence and acquire", x + "fence acqrel d/store y 1 rlx d/thread 1/r0 = load y acquire d/" + r, stale, false, false},
		{"release and a fence", x + "store y 1 release d/thread 1/r0 = load y rlx d/fence sc d/" + r, stale, false, false},
		{"a fence within an if", x + "store y 1 release d/thread 1/r0 = load y rlx d/if r0/fence acqrel d/r1 = load x weak/end/", stale, false, false},
		{"fences on the wrong side", x + "store y 1 rlx d/fence sc d/thread 1/fence sc d/r0 = load y rlx d/" + r, stale, true, true},
		{"fences of scope block, one block", x + "fence acqrel b/store y 1 rlx d/thread 0/r0 = load y rlx d/fence acqrel b/" + r, stale, false, false},
		{"fences of two scopes, two blocks", x + "fence acqrel b/store y 1 rlx d/thread 1/r0 = load y rlx d/fence acqrel d/" + r, stale, true, true},
		{"a step that releases, one that acquires", x + "r3 = add y 1 release d/thread 1/r0 = swap y 3 acquire d/" + r, stale, false, false},
		{"steps of acqrel", x + "r3 = add y 1 acqrel d/thread 1/r0 = swap y 3 acqrel d/" + r, stale, false, false},
		{"a step that acquires as a write", x + "r3 = add y 1 acquire d/thread 1/r0 = load y acquire d/" + r, stale, true, true},
		{"a step that releases as a read", x + "store y 1 release d/thread 1/r0 = add y 1 release d/" + r, stale, true, true},
	})
	two := []int{2, 0, 2, 2, 2, 0}
	late := "thread 0/r0 = load y acquire d/r1 = r0 == 2/if r1/r2 = load x weak/end/"
	asksOfSource(t, "P5", []want{
		{"over a step", x + "store y 1 release d/thread 1/r0 = add y 1 rlx d/" + late, two, false, false},
		{"over a swap", x + "store y 1 release d/thread 1/r0 = swap y 2 rlx d/if r0/end/" + late, two, true, true},
		{"over a load and a store", x + "store y 1 release d/thread 1/r0 = load y rlx d/r1 = r0 + r0/store y r1 rlx d/" + late, two, true, true},
		{"over a step of scope block in another block", x + "store y 1 release d/thread 1/r0 = add y 1 rlx b/" + late, two, true, true},
		{"over a step of scope block in the block", x + "store y 1 release d/thread 0/r0 = add y 1 rlx b/" + late, two, false, false},
		{"over a later store of the thread", x + "store y 1 release d/store y 2 rlx d/thread 1/thread 0/r0 = load y acquire d/r1 = r0 == 2/if r1/r2 = load x weak/end/", two, true, true},
	})
	asksOfSource(t, "P6", []want{
		{"before over two threads", "thread 0/store x 1 rlx d/store y 1 release d/thread 1/r0 = load y acquire d/store z r0 release d/thread 0/r0 = load z acquire d/r1 = load x rlx d/", []int{2, 0, 1, 2, 1, 0}, false, false},
		{"not before over two threads", "thread 0/store x 1 rlx d/store y 1 release d/thread 1/r0 = load y rlx d/store z r0 release d/thread 0/r0 = load z acquire d/r1 = load x rlx d/", []int{2, 0, 1, 2, 1, 0}, true, false},
	})
}

func TestGathering(t *testing.T) {
	asksOfSource(t, "P5", []want{
		{"ahead of one, behind it", "thread 1/store x 1 weak/barrier/thread 1/barrier/r0 = load x weak/", []int{1, 0, 0}, false, false},
		{"behind it, ahead of it", "thread 1/barrier/store x 1 weak/thread 1/r0 = load x weak/barrier/", []int{1, 0, 1}, false, false},
		{"both ahead", "thread 1/store x 1 weak/barrier/thread 1/r0 = load x weak/barrier/", []int{1, 0, 0}, true, true},
		{"both behind", "thread 1/barrier/store x 1 weak/thread 1/barrier/r0 = load x weak/", []int{1, 0, 1}, true, true},
		{"between the two", "thread 0/barrier/store x 1 weak/barrier/thread 0/barrier/r0 = load x weak/barrier/", []int{1, 0, 0}, true, true},
		{"behind the second", "thread 0/barrier/store x 1 weak/barrier/thread 0/barrier/barrier/r0 = load x weak/", []int{1, 0, 0}, false, false},
		{"ahead of the first", "thread 0/store x 1 weak/barrier/barrier/thread 0/barrier/r0 = load x weak/barrier/", []int{1, 0, 0}, false, false},
		{"behind the second, ahead of the first", "thread 0/barrier/barrier/store x 1 weak/thread 0/r0 = load x weak/barrier/barrier/", []int{1, 0, 1}, false, false},
		{"of two blocks", "thread 1/store x 1 weak/barrier/thread 0/barrier/r0 = load x weak/", []int{1, 0, 0}, true, true},
		{"of three threads", "thread 1/store x 1 weak/barrier/thread 0/thread 1/barrier/r0 = load x weak/", []int{2, 0, 0}, false, false},
	})
}

func TestRulesOfTheSource(t *testing.T) {
	sc := "fence sc d/"
	reader := func(a, b string) string { return "r0 = load " + a + " rlx d/" + sc + "r1 = load " + b + " rlx d/" }
	four := []int{2, 0, 1, 2, 1, 0, 3, 0, 1, 3, 1, 0}
	asksOfSource(t, "P6", []want{
		{"before itself", "thread 0/r0 = load y acquire d/store x 1 release d/thread 1/r0 = load x acquire d/store y 1 release d/", bothOne, false, false},
		{"a read of a later write", "thread 0/r0 = load x weak/store x 1 weak/", []int{0, 0, 1}, false, false},
		{"a read of an older write", "thread 0/store x 1 weak/store x 2 weak/r0 = load x weak/", []int{0, 0, 1}, false, false},
		{"a read of a first write behind a write", "thread 0/store x 1 weak/r0 = load x weak/", []int{0, 0, 0}, false, false},
		{"two reads backwards", "thread 0/store x 1 weak/thread 1/r0 = load x weak/r1 = load x weak/", stale, false, true},
		{"a read, then a write that is overwritten", "thread 0/store x 1 rlx d/thread 1/r0 = load x rlx d/store x 2 rlx d/r1 = load x rlx d/", []int{1, 0, 1, 1, 1, 1}, false, false},
		{"a write that is overwritten", "thread 0/store x 1 rlx d/thread 1/r0 = load x rlx d/store x 2 rlx d/r1 = load x rlx d/", []int{1, 0, 0, 1, 1, 1}, true, false},
		{"communicating over two steps", "thread 0/store x 1 rlx d/store x 2 rlx d/thread 1/r0 = load x rlx d/r1 = load x rlx d/", []int{1, 0, 2, 1, 1, 1}, false, false},
		{"two adds of one value", "thread 0/r0 = add x 1 rlx d/thread 1/r0 = add x 1 rlx b/", bothNil, false, true},
		{"two swaps of one value", "thread 0/r0 = swap x 1 rlx d/thread 1/r0 = swap x 2 rlx d/", bothNil, false, false},
		{"a store within a step", "thread 0/r0 = add x 1 rlx d/thread 1/store x 2 weak/r0 = load x weak/", []int{0, 0, 0, 1, 0, 1}, false, true},
		{"a store ahead of a step", "thread 0/r0 = add x 1 rlx d/thread 1/store x 2 weak/r0 = load x weak/", []int{0, 0, 2, 1, 0, 3}, true, true},
		{"sc fences", crossing(sc), bothNil, false, false},
		{"sc fences, scope block, two blocks", crossing("fence sc b/"), bothNil, true, false},
		{"sc fences, scope block, one block", strings.ReplaceAll(crossing("fence sc b/"), "thread 1", "thread 0"), bothNil, false, false},
		{"one sc fence", "thread 0/store x 1 rlx d/fence sc d/r0 = load y rlx d/thread 1/store y 1 rlx d/fence acqrel d/r0 = load x rlx d/", bothNil, true, false},
		{"sc fences around weak ones", "thread 0/store x 1 weak/fence sc d/r0 = load y weak/thread 1/store y 1 weak/fence sc d/r0 = load x weak/", bothNil, false, true},
		{"sc fences, four threads", "thread 0/store x 1 rlx d/thread 1/store y 1 rlx d/thread 0/" + reader("x", "y") + "thread 1/" + reader("y", "x"), four, false, false},
		{"sc fences, three of them", "thread 0/store x 1 rlx d/" + sc + "r0 = load y rlx d/thread 1/store y 1 rlx d/" + sc + "r0 = load z rlx d/thread 0/store z 1 rlx d/" + sc + "r0 = load x rlx d/", []int{0, 0, 0, 1, 0, 0, 2, 0, 0}, false, false},
		{"sc fences, one of the three of scope block", "thread 0/store x 1 rlx d/" + sc + "r0 = load y rlx d/thread 1/store y 1 rlx d/fence sc b/r0 = load z rlx d/thread 0/store z 1 rlx d/" + sc + "r0 = load x rlx d/", []int{0, 0, 0, 1, 0, 0, 2, 0, 0}, true, false},
		{"sc fences, a write behind another", "thread 0/store x 1 rlx d/" + sc + "store y 1 rlx d/r0 = load y rlx d/thread 1/store y 2 rlx d/" + sc + "r0 = load x rlx d/", []int{0, 0, 2, 1, 0, 0}, false, false},
		{"sc fences, a write ahead of another", "thread 0/store x 1 rlx d/" + sc + "store y 1 rlx d/r0 = load y rlx d/thread 1/store y 2 rlx d/" + sc + "r0 = load x rlx d/", []int{0, 0, 1, 1, 0, 0}, true, false},
	})
}

func TestClash(t *testing.T) {
	asksOfSource(t, "P6", []want{
		{"weak, weak", "thread 0/store x 1 weak/thread 0/r0 = load x weak/", nil, true, true},
		{"weak, device", "thread 0/store x 1 weak/thread 0/r0 = load x rlx d/", nil, true, true},
		{"device, weak", "thread 0/r0 = load x rlx d/thread 0/store x 1 weak/", nil, true, true},
		{"two weak reads", "thread 0/r0 = load x weak/thread 1/r0 = load x weak/", nil, true, false},
		{"two variables", "thread 0/store y 1 weak/thread 1/r0 = load x weak/", nil, true, false},
		{"two weak writes", "thread 0/store x 1 weak/thread 1/store x 1 weak/", nil, true, true},
		{"device, device", "thread 0/store x 1 rlx d/thread 1/r0 = load x rlx d/", nil, true, false},
		{"block, block, of two", "thread 0/store x 1 rlx b/thread 1/r0 = load x rlx b/", nil, true, true},
		{"block, block, of one", "thread 0/store x 1 rlx b/thread 0/r0 = load x rlx b/", nil, true, false},
		{"a step and a weak read", "thread 0/r0 = add x 1 rlx d/thread 1/r0 = load x weak/", nil, true, true},
		{"two steps", "thread 0/r0 = add x 1 rlx d/thread 1/r0 = add x 1 rlx d/", nil, true, false},
		{"two steps, scope block", "thread 0/r0 = add x 1 rlx d/thread 1/r0 = add x 1 rlx b/", nil, true, true},
		{"of one thread", "thread 0/r0 = load x weak/store x 1 weak/", nil, true, false},
		{"in a run that never comes", "thread 0/store x 1 weak/thread 1/if r0/r0 = load x weak/end/", nil, true, false},
		{"in a run that may not be", "thread 0/r0 = load y rlx d/if r0/store z 1 weak/store x 1 rlx d/end/thread 1/r0 = load x rlx d/if r0/r1 = load z weak/store y 1 rlx d/end/", nil, true, false},
		{"in one run of some", "thread 0/store x 1 weak/store y 1 release d/thread 1/r0 = load y acquire d/r0 = 1 - r0/if r0/r1 = load x weak/end/", nil, true, true},
	})
}

func TestAllOutcomes(t *testing.T) {
	for _, c := range []struct {
		s     string
		want  [][]int
		clash bool
	}{
		{"thread 1/", [][]int{{0, 0, 0, 0, 0, 0, 0}}, false},
		{"thread 0/thread 1/", [][]int{{0, 0, 0, 0, 0, 0, 0, 0, 0, 0, 0}}, false},
		{"thread 0/r3 = 2/thread 1/r0 = 3/store z r0 weak/", [][]int{{0, 0, 0, 2, 3, 0, 0, 0, 0, 0, 3}}, false},
		{"thread 0/store y 3 weak/store x 2 weak/store z 1 weak/", [][]int{{0, 0, 0, 0, 2, 3, 1}}, false},
		{"thread 0/store y 3 weak/store y 2 weak/store y 1 weak/", [][]int{{0, 0, 0, 0, 0, 1, 0}}, false},
		{"thread 0/store y 3 rlx d/thread 1/store y 2 rlx d/thread 1/store y 1 rlx d/", [][]int{
			{0, 0, 0, 0, 0, 0, 0, 0, 0, 0, 0, 0, 0, 1, 0}, {0, 0, 0, 0, 0, 0, 0, 0, 0, 0, 0, 0, 0, 2, 0}, {0, 0, 0, 0, 0, 0, 0, 0, 0, 0, 0, 0, 0, 3, 0}}, false},
		{"thread 0/r0 = swap y 3 rlx d/thread 1/r0 = swap y 2 rlx d/", [][]int{
			{0, 0, 0, 0, 3, 0, 0, 0, 0, 2, 0}, {2, 0, 0, 0, 0, 0, 0, 0, 0, 3, 0}}, false},
		{"thread 0/store x 1 weak/thread 0/r1 = load x weak/r2 = load x weak/", [][]int{
			{0, 0, 0, 0, 0, 0, 0, 0, 1, 0, 0}, {0, 0, 0, 0, 0, 0, 1, 0, 1, 0, 0}, {0, 0, 0, 0, 0, 1, 1, 0, 1, 0, 0}}, true},
		{"thread 0/r1 = 1/r0 = swap x r1 rlx b/r1 = add x 3 acquire b/r2 = add x r1 release b/", [][]int{{0, 1, 0, 0, 1, 0, 0}}, false},
	} {
		o, clash, e, line := kernels.Source(long(c.s))
		if !reflect.DeepEqual(o, c.want) || clash != c.clash || e != api.OK || line != 0 {
			t.Errorf("P7: Source(%q) = %v, %v, %d, %d, want %v, %v", c.s, o, clash, e, line, c.want, c.clash)
		}
	}
}

// TestOutcomesAreTheCallers writes into all that comes out, and into its
// spare room.
func TestOutcomesAreTheCallers(t *testing.T) {
	for _, s := range []string{long(message("", "")), long(crossing("")), "thread 0\n", long("thread 0/store x 1 weak/thread 1/r0 = load x weak/r1 = load x weak/")} {
		want, _, _, _ := kernels.Source(s)
		got, _, _, _ := kernels.Source(s)
		if !reflect.DeepEqual(got, want) {
			t.Fatalf("P1: Source(%q) = %v, then %v", s, want, got)
		}
		for i := range got {
			row := got[i][:cap(got[i])]
			for k := range row {
				row[k] = 9
			}
			for k := i + 1; k < len(got); k++ {
				if !slices.Equal(got[k], want[k]) {
					t.Errorf("P1: Source(%q): outcomes %d and %d share memory", s, i, k)
				}
			}
		}
		clear(got[:cap(got)])
		if again, _, _, _ := kernels.Source(s); !reflect.DeepEqual(again, want) {
			t.Errorf("P1: Source(%q) = %v, want %v", s, again, want)
		}
	}
}

// TestGreatestKernels: the kernels with the most candidates and the most
// events come through.
func TestGreatestKernels(t *testing.T) {
	filled := func(stores []string) string {
		s := ""
		for i, st := range stores {
			s += "thread " + string("01"[i%2]) + "/" + st + "r0 = load x rlx d/" + many("fence acqrel d/", 4) + "barrier/barrier/"
		}
		return s
	}
	for _, s := range []string{
		filled([]string{"store x 1 rlx d/", "store x 2 rlx d/", "store x 3 rlx d/", "fence sc d/"}),
		filled([]string{"store x 0 rlx d/", "store x 0 rlx d/", "store x 0 rlx d/", "fence sc d/"}),
		many("thread 0/"+many("fence acqrel b/", 6)+"barrier/barrier/", 4),
		"thread 0/" + many("r0 = load x weak/", 4) + many("store x r0 weak/", 3),
		many("thread 1/r0 = load x weak/store x r0 weak/", 3) + "thread 0/r0 = load x weak/",
		many("thread 1/r0 = add x r0 acqrel d/", 3) + "thread 0/r0 = load x weak/",
	} {
		if o, _, e, line := kernels.Source(long(s)); len(o) == 0 || e != api.OK || line != 0 {
			t.Errorf("P1: Source(%q) = %v, %d, line %d", s, o, e, line)
		}
	}
}
