package kernels_test

import (
	"strings"
	"testing"

	"kernels/api"
	"kernels/kernels"
)

// made is what a kernel becomes, in the short forms of long, in one way.
type made struct {
	way     int
	s, want string
}

func wantMade(t *testing.T, promise string, list []made) {
	t.Helper()
	for _, c := range list {
		a, e, line := kernels.Compile(long(c.s), c.way)
		if a != text(c.want) || e != api.OK || line != 0 {
			t.Errorf("%s: Compile(%q, %d) = %q, %d, %d, want %q", promise, c.s, c.way, a, e, line, text(c.want))
		}
	}
}

// asInWay0 asks that a way leaves kernels as way 0 has them.
func asInWay0(t *testing.T, promise string, way int, list ...string) {
	t.Helper()
	for _, s := range list {
		want, _, _ := kernels.Compile(long(s), 0)
		wantMade(t, promise, []made{{way, s, strings.ReplaceAll(want, "\n", "/")}})
	}
}

func TestExamplesOfWays(t *testing.T) {
	swap := "thread 0/r0 = swap x r1 acqrel b/if r0/end/"
	fences := "thread 1/fence acqrel d/fence acqrel b/fence sc b/store x 1 release d/"
	wantMade(t, "Examples", []made{
		{1, swap, ".thread 0/fence.acq_rel.cta/atom.exch.relaxed.cta %r0, [x], %r1/fence.acq_rel.cta/bz %r0, L1/L1:/"},
		{0, swap, ".thread 0/atom.exch.acq_rel.cta %r0, [x], %r1/bz %r0, L1/L1:/"},
		{2, swap, ".thread 0/atom.exch.acq_rel.cta %r0, [x], %r1/bz %r0, L1/L1:/"},
		{3, swap, ".thread 0/fence.acq_rel.cta/atom.exch.relaxed.cta %r0, [x], %r1/fence.acq_rel.cta/bz %r0, L1/L1:/"},
		{2, fences, ".thread 1/fence.acq_rel.cta/fence.sc.cta/st.release.cta [x], 1/"},
		{0, fences, ".thread 1/fence.acq_rel.gpu/fence.acq_rel.cta/fence.sc.cta/st.release.gpu [x], 1/"},
		{1, fences, ".thread 1/fence.acq_rel.gpu/fence.acq_rel.cta/fence.sc.cta/fence.acq_rel.gpu/st.relaxed.gpu [x], 1/"},
		{3, fences, ".thread 1/fence.acq_rel.cta/fence.sc.cta/fence.acq_rel.cta/st.relaxed.cta [x], 1/"},
	})
}

// access is a load, store or step without its order, the orders that it may
// have, and the two parts of its instruction around the order.
type access struct {
	kernel, orders, name, rest string
}

func allAccesses() []access {
	return []access{
		{"r1 = load x", "weak relaxed acquire", "ld", "%r1, [x]"},
		{"store x r2", "weak relaxed release", "st", "[x], %r2"},
		{"r1 = add x 3", "relaxed acquire release acqrel", "atom.add", "%r1, [x], 3"},
		{"r3 = swap x r0", "relaxed acquire release acqrel", "atom.exch", "%r3, [x], %r0"},
	}
}

// fencedAccess is what way 1 makes of an access of a pure variable.
func fencedAccess(a access, order, scope string) string {
	fence := "fence.acq_rel." + scope + "/"
	s := a.name + ".relaxed." + scope + " " + a.rest + "/"
	if order == "weak" {
		s = a.name + ".weak " + a.rest + "/"
	}
	if order == "release" || order == "acqrel" {
		s = fence + s
	}
	if order == "acquire" || order == "acqrel" {
		s += fence
	}
	return s
}

func TestEachOrderByFences(t *testing.T) {
	for _, a := range allAccesses() {
		for _, o := range strings.Split(a.orders, " ") {
			for _, scope := range [][2]string{{" d", "gpu"}, {" b", "cta"}} {
				s := a.kernel + " " + o + scope[0] + "/"
				if o == "weak" {
					s = a.kernel + " weak/"
				}
				with := fencedAccess(a, o, scope[1])
				plain := a.name + "." + strings.Replace(o, "acqrel", "acq_rel", 1) + "." + scope[1] + " " + a.rest + "/"
				if o == "weak" {
					plain = with
				}
				shared := with
				if scope[1] == "cta" || o == "acqrel" {
					shared = plain
				}
				wantMade(t, "P9", []made{
					{0, "thread 0/" + s, ".thread 0/" + plain},
					{1, "thread 0/" + s, ".thread 0/" + with},
					{1, "thread 1/if r0/if 0/" + s + "end/end/", ".thread 1/bz %r0, L1/bz 0, L2/" + with + "L2:/L1:/"},
					{1, "thread 1/r0 = 1/thread 0/thread 1/r1 = 2/" + s + "r1 = 3/", ".thread 1/mov %r0, 1/.thread 0/.thread 1/mov %r1, 2/" + with + "mov %r1, 3/"},
					{1, "thread 0/r0 = load x rlx d/thread 1/" + s, ".thread 0/ld.relaxed.gpu %r0, [x]/.thread 1/" + shared},
					{1, "thread 0/" + s + "thread 1/if 0/store x 1 rlx d/end/", ".thread 0/" + shared + ".thread 1/bz 0, L1/st.relaxed.gpu [x], 1/L1:/"},
				})
			}
		}
	}
}

func TestPureVariables(t *testing.T) {
	st := "store x 1 release d/"
	ld := "r0 = load x acquire d/"
	fencedStore := "fence.acq_rel.gpu/st.relaxed.gpu [x], 1/"
	fencedLoad := "ld.relaxed.gpu %r0, [x]/fence.acq_rel.gpu/"
	asInWay0(t, "P9: weak", 1,
		"thread 0/"+st+"r0 = load x weak/", "thread 0/store x 1 weak/thread 0/"+st, "thread 0/"+st+"thread 1/store x 1 weak/",
		"thread 1/"+ld+"if 0/store x 1 weak/end/", "thread 0/r0 = add x 1 acqrel b/thread 0/if r0/if r0/r0 = load x weak/end/end/")
	asInWay0(t, "P9: both blocks, scope block", 1,
		"thread 0/"+st+"thread 1/r0 = load x rlx b/", "thread 0/"+ld+"thread 1/store x 0 rlx b/", "thread 0/"+ld+"thread 1/r0 = add x 0 rlx b/",
		"thread 1/r0 = swap x 0 rlx b/thread 0/"+st, "thread 0/r1 = load x acquire b/thread 1/"+st, "thread 0/store x 1 release b/thread 1/"+ld,
		"thread 0/"+st+"thread 0/if 0/r0 = load x rlx b/end/thread 1/"+ld, "thread 0/r0 = add x 1 release b/thread 1/"+ld, "thread 0/r0 = swap x 1 acquire b/thread 1/"+st)
	asInWay0(t, "P9: both blocks, acqrel", 1,
		"thread 0/"+st+"thread 1/r0 = add x 1 acqrel d/", "thread 1/"+st+"if 0/r0 = swap x 1 acqrel d/end/thread 0/"+ld)
	wantMade(t, "P9: one block", []made{
		{1, "thread 0/" + st + "thread 0/r0 = load x rlx b/", ".thread 0/" + fencedStore + ".thread 0/ld.relaxed.cta %r0, [x]/"},
		{1, "thread 1/" + ld + "thread 0/thread 1/r0 = add x 1 rlx b/", ".thread 1/" + fencedLoad + ".thread 0/.thread 1/atom.add.relaxed.cta %r0, [x], 1/"},
		{1, "thread 0/" + st + "r0 = swap x 1 acqrel b/", ".thread 0/" + fencedStore + "fence.acq_rel.cta/atom.exch.relaxed.cta %r0, [x], 1/fence.acq_rel.cta/"},
	})
	wantMade(t, "P9: both blocks", []made{
		{1, "thread 0/" + st + "thread 1/" + ld, ".thread 0/" + fencedStore + ".thread 1/" + fencedLoad},
		{1, "thread 0/" + st + "fence sc b/thread 1/" + ld + "barrier/", ".thread 0/" + fencedStore + "fence.sc.cta/.thread 1/" + fencedLoad + "bar.sync/"},
		{1, "thread 0/r0 = add x 1 release d/thread 1/r0 = swap x 1 acquire d/", ".thread 0/fence.acq_rel.gpu/atom.add.relaxed.gpu %r0, [x], 1/.thread 1/atom.exch.relaxed.gpu %r0, [x], 1/fence.acq_rel.gpu/"},
	})
}

// What one variable is says nothing of another.
func TestPureVariablesAreEachAlone(t *testing.T) {
	wantMade(t, "P9", []made{
		{1, "thread 0/store x 1 weak/store y 1 release d/thread 1/r0 = load y acquire d/if r0/r1 = load x weak/end/",
			".thread 0/st.weak [x], 1/fence.acq_rel.gpu/st.relaxed.gpu [y], 1/.thread 1/ld.relaxed.gpu %r0, [y]/fence.acq_rel.gpu/bz %r0, L1/ld.weak %r1, [x]/L1:/"},
		{1, "thread 0/store z 1 release b/r0 = load y acquire b/thread 1/store y 1 release b/r1 = load z acquire d/r2 = load x acquire b/",
			".thread 0/st.release.cta [z], 1/ld.acquire.cta %r0, [y]/.thread 1/st.release.cta [y], 1/ld.acquire.gpu %r1, [z]/ld.relaxed.cta %r2, [x]/fence.acq_rel.cta/"},
		{1, "thread 0/r0 = add x 1 acqrel d/r1 = add y 1 acqrel d/thread 1/r0 = add x 1 release d/",
			".thread 0/atom.add.acq_rel.gpu %r0, [x], 1/fence.acq_rel.gpu/atom.add.relaxed.gpu %r1, [y], 1/fence.acq_rel.gpu/.thread 1/atom.add.release.gpu %r0, [x], 1/"},
	})
}

// Way 1 takes no fence, barrier or scope away.
func TestWay1LeavesTheRest(t *testing.T) {
	asInWay0(t, "P9", 1,
		"thread 0/fence sc d/fence sc d/fence acqrel b/", "thread 1/barrier/barrier/thread 1/barrier/r0 = 1/barrier/", "thread 0/r0 = load x rlx d/store x 1 rlx d/",
		"thread 0/r0 = 1/r1 = r0 + 2/r2 = r1 - r0/r3 = 1 == r2/if r3/if 0/end/end/if 1/end/")
	wantMade(t, "P9", []made{
		{1, "thread 0/r0 = load x acquire d/store x 1 release d/", ".thread 0/ld.relaxed.gpu %r0, [x]/fence.acq_rel.gpu/fence.acq_rel.gpu/st.relaxed.gpu [x], 1/"},
	})
}

func TestNarrowerScopes(t *testing.T) {
	for _, block := range []string{"thread 0/", "thread 1/"} {
		for _, a := range allAccesses() {
			for _, o := range strings.Split(a.orders, " ")[1:] {
				narrow := "." + block + a.name + "." + strings.Replace(o, "acqrel", "acq_rel", 1) + ".cta " + a.rest + "/"
				wantMade(t, "P10.1", []made{
					{2, block + a.kernel + " " + o + " d/", narrow},
					{2, block + a.kernel + " " + o + " b/", narrow},
					{2, block + a.kernel + " " + o + " d/" + block + "fence sc b/", narrow + "." + block + "fence.sc.cta/"},
					{2, block + a.kernel + " " + o + " d/thread 0/thread 1/store y 1 weak/", narrow + ".thread 0/.thread 1/st.weak [y], 1/"},
				})
			}
			shared := a.kernel + " relaxed d/"
			asInWay0(t, "P10.1", 2, "thread 0/"+shared+"thread 1/r0 = load x weak/", "thread 1/if 0/store x 1 rlx d/end/thread 0/"+shared, "thread 0/"+shared+"thread 1/"+shared+"fence sc d/")
		}
	}
	wantMade(t, "P10.1", []made{
		{2, "thread 0/store x 1 release d/r0 = load y acquire d/thread 1/store y 1 rlx d/r0 = add z 1 acqrel d/", ".thread 0/st.release.cta [x], 1/ld.acquire.gpu %r0, [y]/.thread 1/st.relaxed.gpu [y], 1/atom.add.acq_rel.cta %r0, [z], 1/"},
		{2, "thread 0/store x 1 rlx b/thread 1/store x 1 rlx d/", ".thread 0/st.relaxed.cta [x], 1/.thread 1/st.relaxed.gpu [x], 1/"},
		{2, "thread 0/if 1/store x 1 rlx d/end/thread 0/if 0/r0 = load x acquire d/end/", ".thread 0/bz 1, L1/st.relaxed.cta [x], 1/L1:/.thread 0/bz 0, L2/ld.acquire.cta %r0, [x]/L2:/"},
		{2, "thread 0/store x 1 weak/", ".thread 0/st.weak [x], 1/"},
	})
}

func TestNarrowerFences(t *testing.T) {
	wantMade(t, "P10.1", []made{
		{2, "thread 0/fence sc d/", ".thread 0/fence.sc.cta/"},
		{2, "thread 1/fence acqrel d/r0 = 1/fence sc b/thread 1/fence sc d/", ".thread 1/fence.acq_rel.cta/mov %r0, 1/fence.sc.cta/.thread 1/fence.sc.cta/"},
		{2, "thread 1/if r0/fence acqrel d/end/", ".thread 1/bz %r0, L1/fence.acq_rel.cta/L1:/"},
	})
	asInWay0(t, "P10.1", 2, "thread 0/fence sc d/thread 1/", "thread 1/thread 0/fence acqrel d/", "thread 0/fence sc d/thread 0/fence acqrel d/thread 0/thread 1/if r0/fence sc d/end/")
}

func TestSecondBarriers(t *testing.T) {
	idle := []made{
		{0, "", ""},
		{0, "r0 = 1/", "mov %r0, 1/"},
		{0, "r0 = 1/r1 = r0 + r0/r2 = 3 - r1/r3 = r2 == 0/", "mov %r0, 1/add %r1, %r0, %r0/sub %r2, 3, %r1/seteq %r3, %r2, 0/"},
		{0, "if r0/end/", "bz %r0, L1/L1:/"},
		{0, "if r0/r0 = 1/if 0/r1 = r2 == r2/end/r0 = 2/end/", "bz %r0, L1/mov %r0, 1/bz 0, L2/seteq %r1, %r2, %r2/L2:/mov %r0, 2/L1:/"},
	}
	for _, c := range idle {
		wantMade(t, "P10.2", []made{
			{2, "thread 0/barrier/" + c.s + "barrier/", ".thread 0/bar.sync/" + c.want},
			{2, "thread 1/barrier/" + c.s + "barrier/store x 1 weak/", ".thread 1/bar.sync/" + c.want + "st.weak [x], 1/"},
			{3, "thread 0/barrier/" + c.s + "barrier/thread 1/barrier/store x 1 weak/barrier/thread 0/fence sc d/barrier/barrier/", ".thread 0/bar.sync/" + c.want + ".thread 1/bar.sync/st.weak [x], 1/bar.sync/.thread 0/fence.sc.gpu/bar.sync/"},
		})
		asInWay0(t, "P10.2", 2, "thread 0/barrier/"+c.s, "thread 0/barrier/"+c.s+"thread 0/barrier/", "thread 0/"+c.s)
		asInWay0(t, "P10.2", 1, "thread 0/barrier/"+c.s+"barrier/")
	}
	busy := []string{"fence sc b/", "fence acqrel b/", "store x 1 weak/", "r0 = load x weak/", "r0 = add x 0 rlx b/", "r0 = swap x 0 acqrel b/"}
	for _, s := range busy {
		for _, between := range []string{s, "r1 = 1/" + s, s + "r1 = 1/", "if 0/" + s + "end/", "if r0/r1 = 1/if 0/" + s + "end/end/", "if r0/end/" + s} {
			asInWay0(t, "P10.2", 2,
				"thread 0/barrier/"+between+"barrier/", "thread 1/barrier/"+between+"barrier/thread 1/barrier/barrier/", "thread 1/barrier/r0 = 1/barrier/thread 0/thread 1/barrier/"+between+"barrier/")
		}
		asInWay0(t, "P10.2", 2, "thread 0/"+s+"barrier/"+s, "thread 0/barrier/"+s+"thread 0/barrier/")
	}
	wantMade(t, "P10.2", []made{
		{2, "thread 0/store x 1 weak/barrier/barrier/r0 = load x weak/", ".thread 0/st.weak [x], 1/bar.sync/ld.weak %r0, [x]/"},
		{2, "thread 0/barrier/thread 1/barrier/barrier/thread 0/barrier/store x 1 weak/", ".thread 0/bar.sync/.thread 1/bar.sync/.thread 0/bar.sync/st.weak [x], 1/"},
		{2, "thread 0/barrier/barrier/thread 0/barrier/barrier/thread 1/barrier/barrier/thread 1/barrier/r0 = 1/barrier/", ".thread 0/bar.sync/.thread 0/bar.sync/.thread 1/bar.sync/.thread 1/bar.sync/mov %r0, 1/"},
	})
}

// TestFencesSideBySide has all pairs, in a kernel in which scopes stay.
func TestFencesSideBySide(t *testing.T) {
	kinds := []line{{"acqrel b", "acq_rel.cta"}, {"acqrel d", "acq_rel.gpu"}, {"sc b", "sc.cta"}, {"sc d", "sc.gpu"}}
	goes := [4][4]bool{
		{true, false, false, false},
		{true, true, false, false},
		{true, false, true, false},
		{true, true, true, true},
	}
	for i, a := range kinds {
		for k, b := range kinds {
			first := "fence " + a.kernel + "/"
			second := "fence " + b.kernel + "/"
			both := "fence." + a.instruction + "/fence." + b.instruction + "/"
			want := both
			if goes[i][k] {
				want = "fence." + a.instruction + "/"
			}
			wantMade(t, "P10.3", []made{
				{2, "thread 0/" + first + second + "thread 1/", ".thread 0/" + want + ".thread 1/"},
				{3, "thread 0/r0 = 1/" + first + second + "r0 = 1/thread 1/", ".thread 0/mov %r0, 1/" + want + "mov %r0, 1/.thread 1/"},
				{2, "thread 1/if r0/" + first + second + "end/thread 0/", ".thread 1/bz %r0, L1/" + want + "L1:/.thread 0/"},
				{1, "thread 0/" + first + second + "thread 1/", ".thread 0/" + both + ".thread 1/"},
			})
			asInWay0(t, "P10.3", 2,
				"thread 0/"+first+"r0 = 1/"+second+"thread 1/", "thread 0/"+first+"store x 1 weak/"+second+"thread 1/", "thread 0/"+first+"barrier/"+second+"thread 1/", "thread 0/"+first+"thread 1/"+second,
				"thread 0/"+first+"if 1/"+second+"end/thread 1/", "thread 0/if 1/"+first+"end/"+second+"thread 1/", "thread 0/if 1/"+first+"end/if 1/"+second+"end/thread 1/",
				"thread 0/"+first+"if 1/end/"+second+"thread 1/", "thread 0/if r0/"+first+"if r0/end/"+second+"end/thread 1/")
		}
	}
}

// Rows of fences: each is held against the last one that has stayed.
func TestRowsOfFences(t *testing.T) {
	wantMade(t, "P10.3", []made{
		{2, "thread 0/" + many("fence acqrel d/", 8) + "thread 1/", ".thread 0/fence.acq_rel.gpu/.thread 1/"},
		{2, "thread 0/fence acqrel d/fence acqrel b/fence sc b/fence acqrel b/thread 1/", ".thread 0/fence.acq_rel.gpu/fence.sc.cta/.thread 1/"},
		{2, "thread 0/fence acqrel d/fence acqrel b/fence acqrel d/thread 1/", ".thread 0/fence.acq_rel.gpu/.thread 1/"},
		{2, "thread 0/fence sc b/fence acqrel b/fence sc b/fence acqrel d/fence acqrel b/thread 1/", ".thread 0/fence.sc.cta/fence.acq_rel.gpu/.thread 1/"},
		{2, "thread 0/fence acqrel b/fence acqrel d/fence sc b/fence sc d/thread 1/", ".thread 0/fence.acq_rel.cta/fence.acq_rel.gpu/fence.sc.cta/fence.sc.gpu/.thread 1/"},
		{2, "thread 0/fence sc d/fence sc d/if r0/fence acqrel d/fence acqrel d/end/fence acqrel b/fence acqrel b/thread 1/", ".thread 0/fence.sc.gpu/bz %r0, L1/fence.acq_rel.gpu/L1:/fence.acq_rel.cta/.thread 1/"},
	})
}

func TestRulesOneAfterTheOther(t *testing.T) {
	wantMade(t, "P10: scopes ahead of fences", []made{
		{2, "thread 0/fence acqrel b/fence acqrel d/", ".thread 0/fence.acq_rel.cta/"},
		{2, "thread 1/fence sc b/fence sc d/fence acqrel d/", ".thread 1/fence.sc.cta/"},
		{2, "thread 0/fence acqrel b/fence acqrel d/thread 1/", ".thread 0/fence.acq_rel.cta/fence.acq_rel.gpu/.thread 1/"},
	})
	wantMade(t, "P10: barriers ahead of fences", []made{
		{2, "thread 0/barrier/barrier/fence sc b/fence sc b/", ".thread 0/bar.sync/fence.sc.cta/"},
		{2, "thread 0/barrier/fence sc b/fence sc b/barrier/", ".thread 0/bar.sync/fence.sc.cta/bar.sync/"},
		{2, "thread 0/fence sc b/barrier/barrier/fence sc b/", ".thread 0/fence.sc.cta/bar.sync/fence.sc.cta/"},
	})
	wantMade(t, "P10 ahead of P9", []made{
		{3, "thread 0/store x 1 release d/thread 0/r0 = load x acquire b/", ".thread 0/fence.acq_rel.cta/st.relaxed.cta [x], 1/.thread 0/ld.relaxed.cta %r0, [x]/fence.acq_rel.cta/"},
		{3, "thread 0/store x 1 release d/thread 1/store y 1 release d/r0 = load x acquire d/", ".thread 0/fence.acq_rel.gpu/st.relaxed.gpu [x], 1/.thread 1/fence.acq_rel.cta/st.relaxed.cta [y], 1/ld.relaxed.gpu %r0, [x]/fence.acq_rel.gpu/"},
		{3, "thread 0/r0 = load x acquire d/fence acqrel d/fence acqrel d/store x 1 release d/", ".thread 0/ld.relaxed.cta %r0, [x]/fence.acq_rel.cta/fence.acq_rel.cta/fence.acq_rel.cta/st.relaxed.cta [x], 1/"},
		{3, "thread 0/barrier/r0 = load x acquire d/barrier/", ".thread 0/bar.sync/ld.relaxed.cta %r0, [x]/fence.acq_rel.cta/bar.sync/"},
		{3, "thread 0/store x 1 release b/thread 1/r0 = load x acquire d/", ".thread 0/st.release.cta [x], 1/.thread 1/ld.acquire.gpu %r0, [x]/"},
		{3, "thread 0/r0 = add x 1 acqrel d/thread 1/r1 = load y weak/store y 1 release d/", ".thread 0/fence.acq_rel.cta/atom.add.relaxed.cta %r0, [x], 1/fence.acq_rel.cta/.thread 1/ld.weak %r1, [y]/st.release.cta [y], 1/"},
	})
}

// All four ways of one kernel on which each rule has a hold.
func TestAllWaysOfOneKernel(t *testing.T) {
	s := "thread 0/r0 = add x 1 acqrel d/fence acqrel b/fence acqrel b/barrier/barrier/if r0/store y 1 release d/end/thread 1/r0 = load y acquire d/"
	wantMade(t, "P8, P9, P10", []made{
		{0, s, ".thread 0/atom.add.acq_rel.gpu %r0, [x], 1/fence.acq_rel.cta/fence.acq_rel.cta/bar.sync/bar.sync/bz %r0, L1/st.release.gpu [y], 1/L1:/.thread 1/ld.acquire.gpu %r0, [y]/"},
		{1, s, ".thread 0/fence.acq_rel.gpu/atom.add.relaxed.gpu %r0, [x], 1/fence.acq_rel.gpu/fence.acq_rel.cta/fence.acq_rel.cta/bar.sync/bar.sync/bz %r0, L1/fence.acq_rel.gpu/st.relaxed.gpu [y], 1/L1:/.thread 1/ld.relaxed.gpu %r0, [y]/fence.acq_rel.gpu/"},
		{2, s, ".thread 0/atom.add.acq_rel.cta %r0, [x], 1/fence.acq_rel.cta/bar.sync/bz %r0, L1/st.release.gpu [y], 1/L1:/.thread 1/ld.acquire.gpu %r0, [y]/"},
		{3, s, ".thread 0/fence.acq_rel.cta/atom.add.relaxed.cta %r0, [x], 1/fence.acq_rel.cta/fence.acq_rel.cta/bar.sync/bz %r0, L1/fence.acq_rel.gpu/st.relaxed.gpu [y], 1/L1:/.thread 1/ld.relaxed.gpu %r0, [y]/fence.acq_rel.gpu/"},
	})
}

// Faults are those of the kernel as it came, not as it becomes; that a thread
// has more instructions than statements may stand is none.
func TestWaysAndFaults(t *testing.T) {
	wantFault(t, "thread 0/"+many("fence sc device/", 4), api.ErrLimit, 0)
	wantFault(t, "thread 0/"+many("fence sc device/", 3), api.OK, 0)
	wantFault(t, "thread 0/"+many("fence acqrel device/", 9), api.ErrSyntax, 10)
	wantFault(t, "thread 0/barrier/barrier/thread 0/barrier/", api.ErrBarrier, 4)
	wantFault(t, "thread 0/barrier/barrier/barrier/", api.ErrBarrier, 1)
	wantFault(t, "thread 0/barrier/if 1/barrier/end/", api.ErrBarrier, 4)
	wantFault(t, "thread 0/"+many("r0 = 1/", 5)+many("r0 = add x 1 acqrel device/", 3), api.OK, 0)
	step := "atom.add.relaxed.gpu %r0, [x], 1/"
	fence := "fence.acq_rel.gpu/"
	wantMade(t, "P9", []made{
		{1, "thread 0/" + many("fence sc d/", 3) + many("r0 = add x 1 acqrel d/", 3) + "r0 = load x acquire d/r0 = 1/",
			".thread 0/" + many("fence.sc.gpu/", 3) + many(fence+step+fence, 3) + "ld.relaxed.gpu %r0, [x]/" + fence + "mov %r0, 1/"},
	})
}
