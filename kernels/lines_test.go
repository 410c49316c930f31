package kernels_test

import (
	"strings"
	"testing"

	"kernels/api"
	"kernels/kernels"
)

// line is a statement that may stand alone, and its instruction.
type line struct {
	kernel, instruction string
}

var (
	registers = []string{"r0", "r1", "r2", "r3"}
	variables = []string{"x", "y", "z"}
	operands  = []string{"r0", "r1", "r2", "r3", "0", "1", "2", "3"}
	scopes    = []string{"block", "device"}
	orders    = []string{"weak", "relaxed", "acquire", "release", "acqrel", "sc"}
)

// suffixes are the orders, with their scopes, as kernels and instructions
// have them.
func suffixes(orders ...string) []line {
	var all []line
	for _, o := range orders {
		if o == "weak" {
			all = append(all, line{"weak", ".weak"})
			continue
		}
		name := strings.Replace(o, "acqrel", "acq_rel", 1)
		all = append(all, line{o + " block", "." + name + ".cta"}, line{o + " device", "." + name + ".gpu"})
	}
	return all
}

func asOperand(a string) string {
	if a[0] == 'r' {
		return "%" + a
	}
	return a
}

// allLines is every statement that there is but if and end.
func allLines() []line {
	all := []line{{"barrier", "bar.sync"}}
	for _, s := range suffixes("acqrel", "sc") {
		all = append(all, line{"fence " + s.kernel, "fence" + s.instruction})
	}
	for _, v := range variables {
		for _, a := range operands {
			for _, s := range suffixes("weak", "relaxed", "release") {
				all = append(all, line{"store " + v + " " + a + " " + s.kernel, "st" + s.instruction + " [" + v + "], " + asOperand(a)})
			}
		}
	}
	for _, d := range registers {
		all = append(all, linesOf(d)...)
	}
	return all
}

// linesOf is every statement that gives register d its value.
func linesOf(d string) []line {
	var all []line
	for _, v := range variables {
		for _, s := range suffixes("weak", "relaxed", "acquire") {
			all = append(all, line{d + " = load " + v + " " + s.kernel, "ld" + s.instruction + " %" + d + ", [" + v + "]"})
		}
		for _, a := range operands {
			for _, s := range suffixes("relaxed", "acquire", "release", "acqrel") {
				rest := s.instruction + " %" + d + ", [" + v + "], " + asOperand(a)
				all = append(all,
					line{d + " = add " + v + " " + a + " " + s.kernel, "atom.add" + rest},
					line{d + " = swap " + v + " " + a + " " + s.kernel, "atom.exch" + rest})
			}
		}
	}
	for _, a := range operands {
		all = append(all, line{d + " = " + a, "mov %" + d + ", " + asOperand(a)})
		for _, b := range operands {
			rest := " %" + d + ", " + asOperand(a) + ", " + asOperand(b)
			all = append(all,
				line{d + " = " + a + " + " + b, "add" + rest},
				line{d + " = " + a + " - " + b, "sub" + rest},
				line{d + " = " + a + " == " + b, "seteq" + rest})
		}
	}
	return all
}

func TestEveryLine(t *testing.T) {
	for _, l := range allLines() {
		wantText(t, "thread 1/"+l.kernel+"/", ".thread 1/"+l.instruction+"/")
	}
	for _, a := range operands {
		wantText(t, "thread 0/if "+a+"/end/", ".thread 0/bz "+asOperand(a)+", L1/L1:/")
	}
}

// What differs from a statement by one byte is none, unless it is another.
func TestAlmostLines(t *testing.T) {
	known := map[string]bool{"thread 0": true, "thread 1": true}
	lines := allLines()
	for _, l := range lines {
		known[l.kernel] = true
	}
	for i, l := range lines {
		if i%7 != 0 && i > 200 {
			continue
		}
		for _, s := range almost(l.kernel) {
			_, e, at := kernels.Compile("thread 0\n"+s+"\n", 0)
			if known[s] != (e == api.OK) || e != api.OK && (e != api.ErrSyntax || at != 2) {
				t.Errorf("P2: %q: %d, line %d", s, e, at)
			}
		}
	}
}

// almost is what comes of a line by one byte more, less or another.
func almost(s string) []string {
	var all []string
	for i := 0; i <= len(s); i++ {
		for _, c := range []string{" ", "\t", "\r", "\x00", "0", "4", "r", "x", "=", "k", "\xff"} {
			all = append(all, s[:i]+c+s[i:])
			if i < len(s) {
				all = append(all, s[:i]+c+s[i+1:])
			}
		}
		if i < len(s) {
			all = append(all, s[:i]+s[i+1:])
		}
	}
	return all
}

func TestOrdersAndScopes(t *testing.T) {
	for _, c := range []struct{ head, orders string }{
		{"r0 = load x", "weak relaxed acquire"},
		{"store x 1", "weak relaxed release"},
		{"r0 = add x 1", "relaxed acquire release acqrel"},
		{"r0 = swap x 1", "relaxed acquire release acqrel"},
		{"fence", "acqrel sc"},
		{"barrier", ""},
		{"r0 = 1", ""},
		{"r0 = r1 + 2", ""},
	} {
		for _, o := range append([]string{"acq_rel", "Relaxed", ""}, orders...) {
			may := o != "" && strings.Contains(" "+c.orders+" ", " "+o+" ")
			wantLine(t, c.head+" "+o, may && o == "weak")
			for _, s := range scopes {
				wantLine(t, c.head+" "+o+" "+s, may && o != "weak")
				wantLine(t, c.head+" "+s+" "+o, false)
				wantLine(t, c.head+" "+o+" "+s+" "+s, false)
			}
			wantLine(t, c.head+" "+o+" cta", false)
			wantLine(t, c.head+" "+o+" system", false)
		}
	}
}

// wantLine asks whether a line may stand in a thread.
func wantLine(t *testing.T, l string, may bool) {
	t.Helper()
	_, e, at := kernels.Compile("thread 0\n"+l+"\n", 0)
	if may && (e != api.OK || at != 0) || !may && (e != api.ErrSyntax || at != 2) {
		t.Errorf("P2: %q: %d, line %d; may it stand: %v", l, e, at, may)
	}
}

func TestBlanks(t *testing.T) {
	for _, l := range []string{"barrier", "fence sc block", "r0 = load x weak", "r0 = load x relaxed block", "store y r1 weak", "store y 1 release device", "r3 = swap z 2 acqrel device", "r1 = r2", "r1 = r2 == 3"} {
		wantLine(t, l, true)
		wantLine(t, " "+l, false)
		wantLine(t, l+" ", false)
		wantLine(t, l+"\r", false)
		wantLine(t, "\t"+l, false)
		for i := range len(l) {
			if l[i] == ' ' {
				wantLine(t, l[:i]+" "+l[i:], false)
				wantLine(t, l[:i]+"\t"+l[i+1:], false)
				wantLine(t, l[:i]+l[i+1:], false)
			}
		}
	}
	for _, l := range []string{"", " ", "if 1 ", " if 1", "if  1", "if1", "end"} {
		wantLine(t, l, false)
	}
	for _, s := range []string{" thread 0/", "thread 0 /", "thread  0/", "thread\t0/", "thread0/", "Thread 0/"} {
		wantFault(t, s, api.ErrSyntax, 1)
	}
	wantFault(t, "thread 0/if 1/end /", api.ErrSyntax, 3)
	wantFault(t, "thread 0/if 1/ end/", api.ErrSyntax, 3)
}
