package prog

import (
	"reflect"
	"slices"
	"strings"
	"testing"
)

// TestDraft reads letters as lines: t a thread, i an if, e an end, m a
// statement of registers, of which a thread may have three. Capitals are
// lines that cannot stand there.
func TestDraft(t *testing.T) {
	for _, c := range []struct {
		letters string
		labels  []int // of the ifs and ends
		open    []int // the label of the if that is open behind each line, 0
		whole   bool
	}{
		{"", nil, nil, false},
		{"t", nil, []int{0}, true},
		{"ttttT", nil, []int{0, 0, 0, 0, 0}, true},
		{"MIE", nil, []int{0, 0, 0}, false},
		{"tmmmM", nil, []int{0, 0, 0, 0, 0}, true},
		{"tmmmI", nil, []int{0, 0, 0, 0, 0}, true},
		{"tmmmtmmmM", nil, []int{0, 0, 0, 0, 0, 0, 0, 0, 0}, true},
		{"tmmiMe", []int{1, 1}, []int{0, 0, 0, 1, 1, 0}, true},
		{"tE", nil, []int{0, 0}, true},
		{"tieE", []int{1, 1}, []int{0, 1, 0, 0}, true},
		{"tiieiee", []int{1, 2, 2, 3, 3, 1}, []int{0, 1, 2, 1, 3, 1, 0}, true},
		{"tiiI", []int{1, 2}, []int{0, 1, 2, 2}, false},
		{"tiT", []int{1}, []int{0, 1, 1}, false},
		{"tiTe", []int{1, 1}, []int{0, 1, 1, 0}, true},
		{"tietmie", []int{1, 1, 2, 2}, []int{0, 1, 0, 0, 0, 2, 0}, true},
		{"tiie", []int{1, 2, 2}, []int{0, 1, 2, 1}, false},
	} {
		d := NewDraft(3)
		var labels []int
		for i, l := range c.letters {
			may := strings.ToLower(string(l)) == string(l)
			next := 1 + strings.Count(c.letters[:i], "i")
			if d.NextLabel() != next {
				t.Errorf("P11: %s: the next label of line %d is %d, want %d", c.letters, i+1, d.NextLabel(), next)
			}
			if ok := readLetter(&d, l, i+1); ok != may || d.OpenLabel() != c.open[i] {
				t.Errorf("P3, P11: %s: line %d may stand: %v; open %d", c.letters, i+1, ok, d.OpenLabel())
			}
		}
		lines := 0
		for _, th := range d.Program().Threads {
			if c.letters[th.Line-1] != 't' || th.Block != th.Line%2 {
				t.Errorf("%s: a thread at line %d, block %d", c.letters, th.Line, th.Block)
			}
			for _, st := range th.Stmts {
				lines++
				if st.Kind != Move {
					labels = append(labels, st.Label)
				} else if st.Label != 0 {
					t.Errorf("%s: a label of line %d", c.letters, st.Line)
				}
			}
		}
		if !slices.Equal(labels, c.labels) || d.IsWhole() != c.whole || lines != strings.Count(c.letters, "m")+len(labels) {
			t.Errorf("P3, P11: %s: labels %v, want %v; whole %v", c.letters, labels, c.labels, d.IsWhole())
		}
	}
	d := NewDraft(3)
	if !reflect.DeepEqual(d.Program(), Program{}) {
		t.Error("of nothing there is a program")
	}
}

func readLetter(d *Draft, l rune, line int) bool {
	switch strings.ToLower(string(l)) {
	case "t":
		return d.Begin(line%2, line)
	case "i":
		return d.Put(Stmt{Kind: If, Line: line})
	case "e":
		return d.Put(Stmt{Kind: End, Line: line})
	}
	return d.Put(Stmt{Kind: Move, Line: line})
}
