package kernels_test

import (
	"strings"
	"testing"

	"kernels/api"
	"kernels/kernels"
)

// text: a slash is a line's end.
func text(s string) string { return strings.ReplaceAll(s, "/", "\n") }

func many(s string, n int) string { return strings.Repeat(s, n) }

// wantFault asks for the answer of every way, and of Source; OK is a fault of
// none.
func wantFault(t *testing.T, s string, fault api.Errno, line int) {
	t.Helper()
	for way := range api.Ways {
		a, e, at := kernels.Compile(text(s), way)
		if e != fault || at != line || (a == "") != (fault != api.OK) {
			t.Errorf("P3: Compile(%.300q, %d) = %q, %d, line %d, want %d, line %d", s, way, a, e, at, fault, line)
		}
	}
	o, clash, e, at := kernels.Source(text(s))
	if e != fault || at != line || (o == nil) != (fault != api.OK) || (clash && fault != api.OK) {
		t.Errorf("P7: Source(%.300q) = %v, %v, %d, line %d, want %d, line %d", s, o, clash, e, at, fault, line)
	}
}

func TestLength(t *testing.T) {
	// No text without a fault is as long as this: that a line is told shows
	// that the text was read.
	wantFault(t, many("x", api.MaxText), api.ErrSyntax, 1)
	wantFault(t, many("x", api.MaxText+1), api.ErrLong, 0)
	wantFault(t, many("/", api.MaxText), api.ErrSyntax, 1)
	wantFault(t, many("/", api.MaxText+1), api.ErrLong, 0)
	wantFault(t, "thread 0/"+many("x", api.MaxText-9), api.ErrSyntax, 2)
	wantFault(t, "thread 0/"+many("x", api.MaxText-8), api.ErrLong, 0)
	wantFault(t, "thread 0/"+many("barrier/", 3)+many("x", 2000), api.ErrLong, 0)
	wantFault(t, many("x", 1<<20), api.ErrLong, 0)
}

func TestThreads(t *testing.T) {
	wantFault(t, "", api.ErrSyntax, 1)
	wantFault(t, "/", api.ErrSyntax, 1)
	wantFault(t, "thread 0/", api.OK, 0)
	wantFault(t, "thread 1/", api.OK, 0)
	for _, s := range []string{"thread 2/", "thread -1/", "thread 00/", "thread x/", "thread/", "thread /", "thread 0 1/", ".thread 0/", "end/", "if 1/", "r0 = 1/", "barrier/"} {
		wantFault(t, s, api.ErrSyntax, 1)
		wantFault(t, s+"thread 0/", api.ErrSyntax, 1)
	}
	wantFault(t, "thread 0/thread 1/thread 0/thread 1/", api.OK, 0)
	wantFault(t, many("thread 1/", api.MaxThreads), api.OK, 0)
	wantFault(t, many("thread 1/", api.MaxThreads+1), api.ErrSyntax, 5)
	wantFault(t, many("thread 1/r0 = 1/", api.MaxThreads+1), api.ErrSyntax, 9)
}

func TestStatementsOfAThread(t *testing.T) {
	h := "thread 0/"
	s := "r0 = 1/"
	wantFault(t, h+many(s, api.MaxStmts), api.OK, 0)
	wantFault(t, h+many(s, api.MaxStmts+1), api.ErrSyntax, 10)
	wantFault(t, many(h+many(s, api.MaxStmts), 4), api.OK, 0)
	wantFault(t, many(h+many(s, api.MaxStmts), 3)+h+many(s, api.MaxStmts+1), api.ErrSyntax, 37)
	wantFault(t, h+"if 1/"+many(s, 7)+"end/", api.OK, 0)
	wantFault(t, h+"if 1/"+many(s, 7)+"end/"+s, api.ErrSyntax, 11)
	wantFault(t, h+many(s, 7)+"if 1/end/", api.OK, 0)
	wantFault(t, h+many(s, 8)+"if 1/end/", api.ErrSyntax, 10)
	wantFault(t, h+many("if 1/end/", 8), api.OK, 0)
	wantFault(t, h+many("if 1/end/", 9), api.ErrSyntax, 18)
	wantFault(t, h+many("fence acqrel block/", 9), api.ErrSyntax, 10)
	wantFault(t, h+many("barrier/", 9), api.ErrSyntax, 10)
}

func TestIfs(t *testing.T) {
	h := "thread 0/"
	wantFault(t, h+"if 1/end/", api.OK, 0)
	wantFault(t, h+"if 1/if r1/end/end/", api.OK, 0)
	wantFault(t, h+"if 1/if 1/end/if 1/end/end/if 1/if 1/end/end/", api.OK, 0)
	wantFault(t, h+"if 1/if 1/if 1/end/end/end/", api.ErrSyntax, 4)
	wantFault(t, h+"if 1/if 1/end/if 1/if 1/end/end/end/", api.ErrSyntax, 6)
	wantFault(t, h+"end/", api.ErrSyntax, 2)
	wantFault(t, h+"if 1/end/end/", api.ErrSyntax, 4)
	wantFault(t, h+h+"if 1/end/"+h+"end/", api.ErrSyntax, 6)
	wantFault(t, h+"if 1/"+h+"end/", api.ErrSyntax, 3)
	wantFault(t, h+"if 1/if 1/end/"+h, api.ErrSyntax, 5)
	for _, s := range []string{"if/", "if x/", "if 4/", "if r4/", "if 1 1/", "if 1 == 1/", "if r/"} {
		wantFault(t, h+s+"end/", api.ErrSyntax, 2)
	}
	wantFault(t, h+"if 1/end 1/", api.ErrSyntax, 3)
}

func TestWhatIsNotEnded(t *testing.T) {
	h := "thread 0/"
	wantFault(t, "thread 0", api.ErrSyntax, 1)
	wantFault(t, h+"barrier", api.ErrSyntax, 2)
	wantFault(t, h+"x", api.ErrSyntax, 2)
	wantFault(t, h+" ", api.ErrSyntax, 2)
	wantFault(t, h+"x/barrier", api.ErrSyntax, 2)
	wantFault(t, h+"if 1/", api.ErrSyntax, 3)
	wantFault(t, h+"if 1/end", api.ErrSyntax, 3)
	wantFault(t, h+"if 1/if 1/end/", api.ErrSyntax, 5)
	wantFault(t, h+"if 1/r0 = 1/r1 = 1", api.ErrSyntax, 4)
	wantFault(t, h+"if 1/x/", api.ErrSyntax, 3)
	wantFault(t, h+"if 1/barrier/", api.ErrSyntax, 4)
}

func TestBarriers(t *testing.T) {
	h := "thread 0/"
	k := "thread 1/"
	b := "barrier/"
	wantFault(t, h+"if 0/"+b+"end/", api.ErrBarrier, 3)
	wantFault(t, h+"if 0/if 1/end/"+b+"end/", api.ErrBarrier, 5)
	wantFault(t, h+"if 0/if 1/"+b+"end/"+b+"end/", api.ErrBarrier, 4)
	wantFault(t, h+"if 0/end/"+b, api.OK, 0)
	wantFault(t, h+b+h+"if 0/"+b+"end/", api.ErrBarrier, 5)
	wantFault(t, h+many(b, 3)+h+"if 0/"+b+"end/", api.ErrBarrier, 7)
	wantFault(t, h+b+h, api.ErrBarrier, 3)
	wantFault(t, h+h+b, api.ErrBarrier, 2)
	wantFault(t, h+b+h+b+h+b+b, api.ErrBarrier, 5)
	wantFault(t, h+b+k+h+b+k+b, api.ErrBarrier, 6)
	wantFault(t, k+b+b+h+h+k+b+b, api.OK, 0)
	wantFault(t, k+b+h+b+b, api.OK, 0)
	wantFault(t, k+b+h+b+h+k+b, api.ErrBarrier, 5)
	wantFault(t, h+many(b, 2), api.OK, 0)
	wantFault(t, h+many(b, 3), api.ErrBarrier, 1)
	wantFault(t, h+h+many(b, 3), api.ErrBarrier, 2)
	wantFault(t, h+many(b, 3)+h+many(b, 3), api.ErrBarrier, 1)
	wantFault(t, h+b+k+many(b, 3)+h+b, api.ErrBarrier, 3)
	wantFault(t, h+b+h+k+many(b, 3), api.ErrBarrier, 3)
}

func TestLimits(t *testing.T) {
	h := "thread 0/"
	load := "r0 = load x weak/"
	store := "store x 1 weak/"
	add := "r0 = add y 1 relaxed block/"
	swap := "r0 = swap z 1 acqrel device/"
	sc := "fence sc block/"
	for _, c := range []struct {
		s  string
		ok bool
	}{
		{many(load, 4), true}, {many(load, 5), false}, {many(load, 3) + h + load, true}, {many(load, 3) + h + load + "thread 1/" + load, false},
		{many(store, 3), true}, {many(store, 4), false}, {many(store, 2) + h + store, true}, {many(store, 2) + h + many(store, 2), false},
		{many(load, 4) + many(store, 3), true}, {many(load, 2) + add + swap + store, true},
		{many(add, 3), true}, {many(add, 4), false}, {many(swap, 3), true}, {many(swap, 4), false}, {add + swap + add + load, true},
		{many(load, 3) + add + swap, false}, {many(load, 4) + add, false}, {many(load, 4) + swap, false},
		{many(store, 2) + add, true}, {many(store, 2) + add + swap, false}, {many(store, 3) + swap, false},
		{"if 0/" + many(load, 5) + "end/", false}, {"if 0/" + many(store, 4) + "end/", false}, {"if 0/" + many(sc, 4) + "end/", false},
		{many(sc, 3), true}, {many(sc, 4), false}, {sc + h + "fence sc device/" + h + sc, true}, {many(sc, 2) + h + many("fence sc device/", 2), false},
		{many(sc, 3) + many("fence acqrel device/", 5), true}, {many("fence acqrel block/", 8), true},
	} {
		fault := api.OK
		if !c.ok {
			fault = api.ErrLimit
		}
		wantFault(t, h+c.s, fault, 0)
	}
}

func TestWhichFaultIsFirst(t *testing.T) {
	h := "thread 0/"
	writes := many("store x 1 weak/", 4)
	wantFault(t, h+writes+"barrier/"+h, api.ErrBarrier, 7)
	wantFault(t, h+writes+"if 1/barrier/end/", api.ErrBarrier, 7)
	wantFault(t, h+writes+"if 1/barrier/end/x/", api.ErrSyntax, 9)
	wantFault(t, h+writes+"x/y/", api.ErrSyntax, 6)
	wantFault(t, h+"barrier/"+h+"if 1/barrier/end/"+h+"barrier", api.ErrSyntax, 8)
	wantFault(t, h+"barrier/"+h+"if 1/", api.ErrSyntax, 5)
	wantFault(t, h+"x/"+many("y", 2000), api.ErrLong, 0)
	wantFault(t, h+many("barrier/", 3)+"end/", api.ErrSyntax, 5)
}
