package kernels_test

import (
	"fmt"
	"strings"
	"testing"

	"kernels/api"
	"kernels/kernels"
)

// wantTargetFault asks for Target's answer; OK is a fault of none.
func wantTargetFault(t *testing.T, s string, fault api.Errno, line int) {
	t.Helper()
	o, clash, e, at := kernels.Target(text(s))
	if e != fault || at != line || (len(o) == 0) != (fault != api.OK) || (o == nil) != (fault != api.OK) || (clash && fault != api.OK) {
		t.Errorf("P11: Target(%.300q) = %v, %v, %d, line %d, want %d, line %d", s, o, clash, e, at, fault, line)
	}
}

// wantInstruction asks whether a line may stand in a thread.
func wantInstruction(t *testing.T, l string, may bool) {
	t.Helper()
	_, _, e, at := kernels.Target(".thread 0\n" + l + "\n")
	if may && (e != api.OK || at != 0) || !may && (e != api.ErrSyntax || at != 2) {
		t.Errorf("P11: %q: %d, line %d; may it stand: %v", l, e, at, may)
	}
}

func TestEveryInstruction(t *testing.T) {
	for _, l := range allLines() {
		wantInstruction(t, l.instruction, true)
		wantInstruction(t, l.kernel, false)
	}
	for _, a := range operands {
		wantTargetFault(t, ".thread 1/bz "+asOperand(a)+", L1/L1:/", api.OK, 0)
	}
}

// What differs from an instruction by one byte is none, unless it is another.
func TestAlmostInstructions(t *testing.T) {
	known := map[string]bool{".thread 0": true, ".thread 1": true}
	lines := allLines()
	for _, l := range lines {
		known[l.instruction] = true
	}
	for i, l := range lines {
		if i%7 != 0 && i > 200 {
			continue
		}
		for _, s := range append(almost(l.instruction), strings.ToUpper(l.instruction), strings.ReplaceAll(l.instruction, ", ", ","), strings.ReplaceAll(l.instruction, ",", ""), strings.ReplaceAll(l.instruction, ", ", " ,")) {
			wantInstruction(t, s, known[s])
		}
	}
}

func TestOrdersAndScopesOfInstructions(t *testing.T) {
	for _, c := range []struct{ head, rest, orders string }{
		{"ld", " %r0, [x]", "weak relaxed acquire"},
		{"st", " [x], 1", "weak relaxed release"},
		{"atom.add", " %r0, [x], 1", "relaxed acquire release acq_rel"},
		{"atom.exch", " %r0, [x], 1", "relaxed acquire release acq_rel"},
		{"fence", "", "acq_rel sc"},
		{"bar.sync", "", ""},
		{"mov", " %r0, 1", ""},
		{"add", " %r0, 1, %r1", ""},
		{"atom", " %r0, [x], 1", ""},
	} {
		for _, o := range []string{"weak", "relaxed", "acquire", "release", "acq_rel", "sc", "acqrel", "Relaxed", ""} {
			may := o != "" && strings.Contains(" "+c.orders+" ", " "+o+" ")
			wantInstruction(t, c.head+"."+o+c.rest, may && o == "weak")
			for _, s := range []string{"cta", "gpu"} {
				wantInstruction(t, c.head+"."+o+"."+s+c.rest, may && o != "weak")
				wantInstruction(t, c.head+"."+s+"."+o+c.rest, false)
				wantInstruction(t, c.head+"."+o+"."+s+"."+s+c.rest, false)
				wantInstruction(t, c.head+"."+o+" "+s+c.rest, false)
			}
			for _, s := range []string{"block", "device", "sys", ""} {
				wantInstruction(t, c.head+"."+o+"."+s+c.rest, false)
			}
		}
		wantInstruction(t, c.head+c.rest, c.orders == "" && c.head != "atom")
	}
}

func TestOperandsOfInstructions(t *testing.T) {
	for _, l := range []string{
		"", " ", ",", ", ", ".", ".thread", ".thread 2", ".thread 0, 1", ".thread 0,", ".thread %r0", "thread 0", "thread 0:",
		"ld.weak", "ld.weak ", "ld.weak %r0", "ld.weak %r0, ", "ld.weak %r0, [x], 1", "ld.weak [x], %r0", "ld.weak %r0, x", "ld.weak %r0, []", "ld.weak %r0, [w]", "ld.weak %r0, [xy]", "ld.weak %r0, [X]",
		"ld.weak %r4, [x]", "ld.weak r0, [x]", "ld.weak %0, [x]", "ld.weak %r, [x]", "ld.weak %r00, [x]", "ld.weak 0, [x]", "ld.weak %x0, [x]",
		"st.weak [x]", "st.weak %r0, [x]", "st.weak [x], [y]", "st.weak [x], 4", "st.weak [x], -1", "st.weak [x], 00", "st.weak [x], r0", "st.weak [x], %r4", "st.weak [x], 1, 1", "st.weak [x], ",
		"atom.add.relaxed.gpu %r0, [x]", "atom.add.relaxed.gpu [x], 1", "atom.add.relaxed.gpu 1, [x], 1", "atom.exch.relaxed.gpu %r0, 1, [x]", "atom.exch.relaxed.gpu %r0, [x], 1, 1", "atom.swap.relaxed.gpu %r0, [x], 1", "atom.relaxed.gpu %r0, [x], 1",
		"fence.sc.gpu ", "fence.sc.gpu %r0", "fence", "bar", "bar.sync ", "bar.sync 0", "barrier", "bar.sync.gpu",
		"mov %r0", "mov 1, %r0", "mov %r0, [x]", "mov %r0, 1, 1", "mov  %r0, 1", "mov %r0 , 1", "mov", "add %r0, 1", "add 1, 1, 1", "add %r0, 1, 1, 1", "add %r0, 1, [x]", "sub %r0, 1", "seteq %r0", "seteq %r0, 1 , 1", "eq %r0, 1, 1", "exit",
		"bz 0", "bz 0,L1", "bz L1, 0", "bz [x], L1", "bz 0, l1", "bz 0, L", "bz 0, L0", "bz 0, L2", "bz 0, L01", "bz 0, L+1", "bz 0, L1:", "bz 0, 1", "bz 4, L1", "bz 0, L1, L1", "bz 0, L 1", "bz 0, L99999999999999999999", "bz r0, L1",
		"L", "L:", "L0:", "L1", "L1:", "L1: ", " L1:", "L-1:", "end", "if 1",
	} {
		wantInstruction(t, l, false)
	}
}

func TestThreadsOfInstructions(t *testing.T) {
	wantTargetFault(t, "", api.ErrSyntax, 1)
	wantTargetFault(t, "/", api.ErrSyntax, 1)
	wantTargetFault(t, ".thread 0/", api.OK, 0)
	wantTargetFault(t, ".thread 1/", api.OK, 0)
	for _, s := range []string{".thread 2/", ".thread -1/", ".thread 00/", ".thread x/", ".thread/", ".thread /", ".thread 0 /", " .thread 0/", ".thread  0/", ".thread 0 1/", "thread 0/", ".Thread 0/", "mov %r0, 1/", "bar.sync/", "bz 0, L1/", "L1:/", "fence.sc.cta/"} {
		wantTargetFault(t, s, api.ErrSyntax, 1)
		wantTargetFault(t, s+".thread 0/", api.ErrSyntax, 1)
	}
	wantTargetFault(t, ".thread 0/.thread 1/.thread 0/.thread 1/", api.OK, 0)
	wantTargetFault(t, many(".thread 1/", api.MaxThreads), api.OK, 0)
	wantTargetFault(t, many(".thread 1/", api.MaxThreads+1), api.ErrSyntax, 5)
	wantTargetFault(t, many(".thread 1/mov %r0, 1/", api.MaxThreads+1), api.ErrSyntax, 9)
}

func TestNestedLabels(t *testing.T) {
	h := ".thread 0/"
	wantTargetFault(t, h+"bz 0, L1/L1:/bz 0, L2/L2:/", api.OK, 0)
	wantTargetFault(t, h+"bz 0, L1/bz 1, L2/L2:/L1:/", api.OK, 0)
	wantTargetFault(t, h+"bz 0, L1/bz 1, L2/L2:/bz 1, L3/L3:/L1:/bz 1, L4/bz 1, L5/L5:/L4:/", api.OK, 0)
	wantTargetFault(t, h+"bz 0, L1/L1:/"+h+h+"bz 0, L2/L2:/", api.OK, 0)
	wantTargetFault(t, h+"bz 0, L1/L1:/"+h+"bz 0, L1/L1:/", api.ErrSyntax, 5)
	wantTargetFault(t, h+"bz 0, L2/L2:/", api.ErrSyntax, 2)
	wantTargetFault(t, h+"bz 0, L1/L1:/bz 0, L1/L1:/", api.ErrSyntax, 4)
	wantTargetFault(t, h+"bz 0, L1/L1:/bz 0, L3/L3:/", api.ErrSyntax, 4)
	wantTargetFault(t, h+"bz 0, L1/bz 1, L1/", api.ErrSyntax, 3)
	wantTargetFault(t, h+"bz 0, L1/bz 1, L2/L1:/L2:/", api.ErrSyntax, 4)
	wantTargetFault(t, h+"bz 0, L1/bz 1, L2/L2:/L2:/", api.ErrSyntax, 5)
	wantTargetFault(t, h+"bz 0, L1/bz 1, L2/L3:/", api.ErrSyntax, 4)
	wantTargetFault(t, h+"bz 0, L1/L2:/", api.ErrSyntax, 3)
	wantTargetFault(t, h+"bz 0, L1/L01:/", api.ErrSyntax, 3)
	wantTargetFault(t, h+"bz 0, L1/L1: /", api.ErrSyntax, 3)
	wantTargetFault(t, h+"bz 0, L1/L1/", api.ErrSyntax, 3)
	wantTargetFault(t, h+"bz 0, L1/L1:/L1:/", api.ErrSyntax, 4)
	wantTargetFault(t, h+"L1:/bz 0, L1/", api.ErrSyntax, 2)
	wantTargetFault(t, h+"L0:/", api.ErrSyntax, 2)
	wantTargetFault(t, h+"bz 0, L1/"+h+"L1:/", api.ErrSyntax, 3)
	wantTargetFault(t, h+"bz 0, L1/bz 0, L2/L2:/"+h, api.ErrSyntax, 5)
	wantTargetFault(t, h+"bz 0, L1/bz 0, L2/bz 0, L3/L3:/L2:/L1:/", api.ErrSyntax, 4)
	wantTargetFault(t, h+"bz 0, L1/bz 0, L2/L2:/bz 0, L3/bz 0, L4/", api.ErrSyntax, 6)
	wantTargetFault(t, h+"bz 0, L1/bar.sync/L1:/", api.ErrSyntax, 3)
	wantTargetFault(t, h+"bz 0, L1/bz 0, L2/L2:/bar.sync/L1:/", api.ErrSyntax, 5)
	wantTargetFault(t, h+"bz 0, L1/L1:/bar.sync/bz 0, L2/L2:/bar.sync/", api.OK, 0)
	wantTargetFault(t, h+"bz 0, L1/fence.sc.cta/mov %r0, 1/L1:/", api.OK, 0)
}

// TestManyLabels: labels of two and three digits.
func TestManyLabels(t *testing.T) {
	s := ""
	for i := range 120 {
		if i%30 == 0 {
			s += ".thread 1/"
		}
		s += fmt.Sprintf("bz 0, L%d/L%d:/", i+1, i+1)
	}
	if len(s) > api.MaxText {
		t.Fatal(len(s))
	}
	wantTargetFault(t, s, api.OK, 0)
	for _, c := range []struct {
		old, new string
		line     int
	}{
		{"bz 0, L9/", "bz 0, L09/", 18}, {"L9:/", "L09:/", 19}, {"bz 0, L10/", "bz 0, L1/", 20}, {"L10:/", "L1:/", 21}, {"L10:/", "L0:/", 21}, {"bz 0, L10/", "bz 0, L11/", 20},
		{"bz 0, L99/", "bz 0, L100/", 201}, {"L100:/", "L10:/", 204}, {"bz 0, L120/", "bz 0, L12/", 243}, {"L120:/", "L121:/", 244}, {"L120:/", "", 244},
	} {
		wantTargetFault(t, strings.Replace(s, c.old, c.new, 1), api.ErrSyntax, c.line)
	}
}

func TestInstructionsOfAThread(t *testing.T) {
	h := ".thread 0/"
	s := "mov %r0, 1/"
	wantTargetFault(t, h+many(s, api.MaxIns), api.OK, 0)
	wantTargetFault(t, h+many(s, api.MaxIns+1), api.ErrSyntax, 42)
	wantTargetFault(t, many(h+many(s, api.MaxIns), 4), api.OK, 0)
	wantTargetFault(t, many(h+many(s, api.MaxIns), 3)+h+many(s, api.MaxIns+1), api.ErrSyntax, 165)
	wantTargetFault(t, h+"bz 1, L1/"+many(s, 39)+"L1:/", api.OK, 0)
	wantTargetFault(t, h+"bz 1, L1/"+many(s, 39)+"L1:/"+s, api.ErrSyntax, 43)
	wantTargetFault(t, h+many(s, 39)+"bz 1, L1/L1:/", api.OK, 0)
	wantTargetFault(t, h+many(s, 40)+"bz 1, L1/L1:/", api.ErrSyntax, 42)
	wantTargetFault(t, h+many(s, 39)+"bz 1, L1/bz 1, L2/L2:/L1:/", api.ErrSyntax, 42)
	wantTargetFault(t, h+many("fence.acq_rel.cta/", 41), api.ErrSyntax, 42)
	wantTargetFault(t, h+many("bar.sync/", 41), api.ErrSyntax, 42)
	wantTargetFault(t, h+many("bar.sync/", 40), api.ErrBarrier, 1)
	labels := ""
	for i := range 41 {
		labels += fmt.Sprintf("bz 1, L%d/L%d:/", i+1, i+1)
	}
	wantTargetFault(t, h+labels, api.ErrSyntax, 82)
	wantTargetFault(t, h+strings.TrimSuffix(labels, "bz 1, L41/L41:/"), api.OK, 0)
}

func TestInstructionsThatAreNotEnded(t *testing.T) {
	h := ".thread 0/"
	wantTargetFault(t, ".thread 0", api.ErrSyntax, 1)
	wantTargetFault(t, h+"bar.sync", api.ErrSyntax, 2)
	wantTargetFault(t, h+"x", api.ErrSyntax, 2)
	wantTargetFault(t, h+" ", api.ErrSyntax, 2)
	wantTargetFault(t, h+"x/bar.sync", api.ErrSyntax, 2)
	wantTargetFault(t, h+"bz 1, L1/", api.ErrSyntax, 3)
	wantTargetFault(t, h+"bz 1, L1/L1:", api.ErrSyntax, 3)
	wantTargetFault(t, h+"bz 1, L1/bz 1, L2/L2:/", api.ErrSyntax, 5)
	wantTargetFault(t, h+"bz 1, L1/mov %r0, 1/mov %r1, 1", api.ErrSyntax, 4)
	wantTargetFault(t, h+"bz 1, L1/x/", api.ErrSyntax, 3)
	wantTargetFault(t, h+"bz 1, L1/bar.sync/", api.ErrSyntax, 3)
}

func TestLengthOfInstructions(t *testing.T) {
	wantTargetFault(t, many("x", api.MaxText), api.ErrSyntax, 1)
	wantTargetFault(t, many("x", api.MaxText+1), api.ErrLong, 0)
	wantTargetFault(t, many("/", api.MaxText), api.ErrSyntax, 1)
	wantTargetFault(t, many("/", api.MaxText+1), api.ErrLong, 0)
	wantTargetFault(t, many("x", 1<<20), api.ErrLong, 0)
	// A text without a fault that is as long as may be.
	full := many(".thread 0/"+many("add %r0, 1, 2/", 35), 4)
	if len(full) != api.MaxText {
		t.Fatalf("%d bytes", len(full))
	}
	wantTargetFault(t, full, api.OK, 0)
	wantTargetFault(t, full+"/", api.ErrLong, 0)
	wantTargetFault(t, full[:len(full)-1], api.ErrSyntax, 144)
}

func TestBarriersOfInstructions(t *testing.T) {
	h := ".thread 0/"
	k := ".thread 1/"
	b := "bar.sync/"
	wantTargetFault(t, h+b+h, api.ErrBarrier, 3)
	wantTargetFault(t, h+h+b, api.ErrBarrier, 2)
	wantTargetFault(t, h+b+h+b+h+b+b, api.ErrBarrier, 5)
	wantTargetFault(t, h+b+k+h+b+k+b, api.ErrBarrier, 6)
	wantTargetFault(t, k+b+b+h+h+k+b+b, api.OK, 0)
	wantTargetFault(t, k+b+h+b+b, api.OK, 0)
	wantTargetFault(t, k+b+h+b+h+k+b, api.ErrBarrier, 5)
	wantTargetFault(t, h+many(b, 2), api.OK, 0)
	wantTargetFault(t, h+many(b, 3), api.ErrBarrier, 1)
	wantTargetFault(t, h+h+many(b, 3), api.ErrBarrier, 2)
	wantTargetFault(t, h+many(b, 3)+h+many(b, 3), api.ErrBarrier, 1)
	wantTargetFault(t, h+b+k+many(b, 3)+h+b, api.ErrBarrier, 3)
	wantTargetFault(t, h+b+h+k+many(b, 3), api.ErrBarrier, 3)
}

func TestLimitsOfInstructions(t *testing.T) {
	h := ".thread 0/"
	k := ".thread 1/"
	load := "ld.weak %r0, [x]/"
	store := "st.weak [x], 1/"
	add := "atom.add.relaxed.cta %r0, [y], 1/"
	swap := "atom.exch.acq_rel.gpu %r0, [z], 1/"
	sc := "fence.sc.cta/"
	f := "fence.acq_rel.gpu/"
	b := "bar.sync/"
	for _, c := range []struct {
		s  string
		ok bool
	}{
		{many(load, 4), true}, {many(load, 5), false}, {many(load, 3) + h + load, true}, {many(load, 3) + h + load + k + load, false},
		{many(store, 3), true}, {many(store, 4), false}, {many(store, 2) + h + store, true}, {many(store, 2) + h + many(store, 2), false},
		{many(load, 4) + many(store, 3), true}, {many(load, 2) + add + swap + store, true},
		{many(add, 3), true}, {many(add, 4), false}, {many(swap, 3), true}, {many(swap, 4), false}, {add + swap + add + load, true},
		{many(load, 3) + add + swap, false}, {many(load, 4) + add, false}, {many(load, 4) + swap, false},
		{many(store, 2) + add, true}, {many(store, 2) + add + swap, false}, {many(store, 3) + swap, false},
		{"bz 0, L1/" + many(load, 5) + "L1:/", false}, {"bz 0, L1/" + many(store, 4) + "L1:/", false}, {"bz 0, L1/" + many(sc, 4) + "L1:/", false},
		{many(sc, 3), true}, {many(sc, 4), false}, {sc + h + "fence.sc.gpu/" + h + sc, true}, {many(sc, 2) + h + many("fence.sc.gpu/", 2), false},
		{many(f, 40) + k + many(f, 10), true}, {many(f, 40) + k + many(f, 11), false}, {many(f, 30) + many(sc, 3) + k + many(f, 17), true}, {many(f, 30) + many(sc, 3) + k + many(f, 18), false},
		{many(f, 25) + h + "bz 0, L1/" + many(f, 26) + "L1:/", false}, {many(f, 25) + h + "bz 0, L1/" + many(f, 25) + "L1:/", true},
		{b + b + many(f, 38) + k + many(f, 8), true}, {b + b + many(f, 38) + k + many(f, 9), false}, {b + many(f, 39) + k + many(f, 9), true}, {b + many(f, 39) + k + many(f, 10), false},
		{b + b + many(f, 23) + k + b + b + many(f, 19), true}, {b + b + many(f, 23) + k + b + b + many(f, 20), false},
		{many(f, 30) + many(load, 4) + many(store, 3) + k + many(f, 20), true},
	} {
		fault := api.OK
		if !c.ok {
			fault = api.ErrLimit
		}
		wantTargetFault(t, h+c.s, fault, 0)
	}
}

func TestWhichFaultOfInstructionsIsFirst(t *testing.T) {
	h := ".thread 0/"
	writes := many("st.weak [x], 1/", 4)
	fences := many("fence.acq_rel.cta/", 39)
	wantTargetFault(t, h+writes+"bar.sync/"+h, api.ErrBarrier, 7)
	wantTargetFault(t, h+fences+"bar.sync/"+h+fences, api.ErrBarrier, 42)
	wantTargetFault(t, h+fences+h+fences+"x/", api.ErrSyntax, 81)
	wantTargetFault(t, h+writes+"bz 1, L1/bar.sync/L1:/", api.ErrSyntax, 7)
	wantTargetFault(t, h+writes+"x/y/", api.ErrSyntax, 6)
	wantTargetFault(t, h+"bar.sync/"+h+"bz 1, L1/", api.ErrSyntax, 5)
	wantTargetFault(t, h+"bar.sync/"+h+"bar.sync", api.ErrSyntax, 4)
	wantTargetFault(t, h+"x/"+many("y", 2000), api.ErrLong, 0)
	wantTargetFault(t, h+many("bar.sync/", 3)+"L1:/", api.ErrSyntax, 5)
}

// TestKernelsAreNoInstructions: Target does not take a kernel, nor Compile
// and Source what it was made into.
func TestKernelsAreNoInstructions(t *testing.T) {
	for _, c := range examples() {
		s := long(c.s)
		wantTargetFault(t, s, api.ErrSyntax, 1)
		for way := range api.Ways {
			a, _, _ := kernels.Compile(s, way)
			wantTargetFault(t, a, api.OK, 0)
			wantFault(t, a, api.ErrSyntax, 1)
		}
	}
}
