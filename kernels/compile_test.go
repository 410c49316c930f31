package kernels_test

import (
	"math"
	"testing"

	"kernels/api"
	"kernels/kernels"
)

func wantText(t *testing.T, s, want string) {
	t.Helper()
	a, e, line := kernels.Compile(text(s), 0)
	if a != text(want) || e != api.OK || line != 0 {
		t.Errorf("P8: Compile(%q, 0) = %q, %d, %d, want %q", s, a, e, line, text(want))
	}
}

func TestWholeKernels(t *testing.T) {
	for _, c := range [][2]string{
		{"thread 0/", ".thread 0/"},
		{"thread 1/thread 0/thread 0/thread 1/", ".thread 1/.thread 0/.thread 0/.thread 1/"},
		{"thread 0/store x 1 weak/store y 1 release device/thread 1/r0 = load y acquire device/if r0/r1 = load x weak/end/",
			".thread 0/st.weak [x], 1/st.release.gpu [y], 1/.thread 1/ld.acquire.gpu %r0, [y]/bz %r0, L1/ld.weak %r1, [x]/L1:/"},
		{"thread 0/r0 = swap x r1 acqrel block/if r0/end/", ".thread 0/atom.exch.acq_rel.cta %r0, [x], %r1/bz %r0, L1/L1:/"},
		{"thread 1/fence acqrel device/fence acqrel block/fence sc block/store x 1 release device/",
			".thread 1/fence.acq_rel.gpu/fence.acq_rel.cta/fence.sc.cta/st.release.gpu [x], 1/"},
		{"thread 0/barrier/r0 = 1/barrier/thread 0/barrier/barrier/", ".thread 0/bar.sync/mov %r0, 1/bar.sync/.thread 0/bar.sync/bar.sync/"},
	} {
		wantText(t, c[0], c[1])
	}
}

func TestLabels(t *testing.T) {
	for _, c := range [][2]string{
		{"thread 0/if 1/end/if 2/end/", ".thread 0/bz 1, L1/L1:/bz 2, L2/L2:/"},
		{"thread 0/if 1/if 2/end/end/", ".thread 0/bz 1, L1/bz 2, L2/L2:/L1:/"},
		{"thread 0/if 1/if 2/end/if 3/end/end/if r0/end/", ".thread 0/bz 1, L1/bz 2, L2/L2:/bz 3, L3/L3:/L1:/bz %r0, L4/L4:/"},
		{"thread 0/if 1/end/thread 1/thread 0/if r3/r0 = 1/if 0/r1 = 1/end/r2 = 1/end/",
			".thread 0/bz 1, L1/L1:/.thread 1/.thread 0/bz %r3, L2/mov %r0, 1/bz 0, L3/mov %r1, 1/L3:/mov %r2, 1/L2:/"},
	} {
		wantText(t, c[0], c[1])
	}
	s := ""
	want := ""
	labels := []string{"1", "2", "3", "4", "5", "6", "7", "8", "9", "10", "11", "12", "13", "14", "15", "16", "17", "18", "19", "20", "21", "22", "23", "24", "25", "26", "27", "28", "29", "30", "31", "32"}
	for i, n := range labels {
		if i%api.MaxStmts == 0 {
			s += "thread 0/"
			want += ".thread 0/"
		}
		s += "if r1/end/"
		want += "bz %r1, L" + n + "/L" + n + ":/"
	}
	wantText(t, s, want)
}

func TestNoSuchWay(t *testing.T) {
	for _, way := range []int{-1, 4, 5, 8, math.MaxInt, math.MinInt} {
		for _, s := range []string{"", "thread 0/", "thread 0", "x/", "thread 0/barrier/thread 0/", "thread 0/" + many("store x 1 weak/", 4), many("x", 2001)} {
			a, e, line := kernels.Compile(text(s), way)
			if a != "" || e != api.ErrArg || line != 0 {
				t.Errorf("P8: Compile(%.30q, %d) = %q, %d, %d", s, way, a, e, line)
			}
		}
	}
	for way := range api.Ways {
		if a, e, line := kernels.Compile("thread 0\n", way); a != ".thread 0\n" || e != api.OK || line != 0 {
			t.Errorf("P8: Compile of a thread, %d = %q, %d, %d", way, a, e, line)
		}
	}
}
