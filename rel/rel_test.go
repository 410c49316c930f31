package rel

import "testing"

// of makes a relation of pairs.
func of(n int, pairs ...int) Relation {
	r := New(n)
	for i := 0; i+1 < len(pairs); i += 2 {
		r.Add(pairs[i], pairs[i+1])
	}
	return r
}

// want asks for just these pairs.
func want(t *testing.T, what string, r Relation, n int, pairs ...int) {
	t.Helper()
	w := of(n, pairs...)
	for a := range n {
		for b := range n {
			if r.Has(a, b) != w.Has(a, b) {
				t.Errorf("%s: from %d to %d: %v, want %v", what, a, b, r.Has(a, b), w.Has(a, b))
			}
		}
	}
}

func TestSets(t *testing.T) {
	s := One(0) | One(5) | One(63)
	for i := -2; i < 70; i++ {
		if s.Has(i) != (i == 0 || i == 5 || i == 63) {
			t.Errorf("Has(%d) is %v", i, s.Has(i))
		}
	}
	if One(-1) != 0 || One(64) != 0 {
		t.Error("an event beyond the room is in a set")
	}
	if m := (One(0) | One(3)).Moved(4); m != One(4)|One(7) {
		t.Errorf("Moved: %b", m)
	}
	if One(1).Moved(-1) != 0 || One(1).Moved(64) != 0 || One(1).Moved(0) != One(1) {
		t.Error("Moved at the edges")
	}
}

func TestRelations(t *testing.T) {
	a := of(4, 0, 1, 1, 2)
	b := of(4, 1, 2, 2, 3, 2, 0)
	want(t, "Or", a.Or(b), 4, 0, 1, 1, 2, 2, 3, 2, 0)
	want(t, "And", a.And(b), 4, 1, 2)
	want(t, "Then", a.Then(b), 4, 0, 2, 1, 3, 1, 0)
	want(t, "Turned", a.Turned(), 4, 1, 0, 2, 1)
	want(t, "Closed", of(5, 3, 2, 2, 1, 1, 0).Closed(), 5, 3, 2, 3, 1, 3, 0, 2, 1, 2, 0, 1, 0)
	want(t, "Closed of a circle", of(3, 0, 1, 1, 0).Closed(), 3, 0, 0, 0, 1, 1, 0, 1, 1)
	want(t, "what it was made of", a, 4, 0, 1, 1, 2)
	want(t, "what it was made of", b, 4, 1, 2, 2, 3, 2, 0)
	if a.Of(1) != One(2) || a.Of(3) != 0 || a.Of(-1) != 0 || a.Of(4) != 0 {
		t.Error("Of")
	}
}

func TestCircles(t *testing.T) {
	for _, c := range []struct {
		r              Relation
		loops, circles bool
	}{
		{New(0), false, false},
		{of(3, 0, 1, 1, 2, 0, 2), false, false},
		{of(3, 2, 2), true, true},
		{of(3, 0, 1, 1, 0), false, true},
		{of(64, 63, 0, 0, 40, 40, 63), false, true},
	} {
		if c.r.Loops() != c.loops || c.r.Circles() != c.circles {
			t.Errorf("%v: %v, %v", c.r, c.r.Loops(), c.r.Circles())
		}
	}
}

func TestLeads(t *testing.T) {
	if New(0).Leads() || New(64).Leads() || !of(3, 0, 2).Leads() || !of(64, 63, 0).Leads() || of(3, 0, 1).And(of(3, 1, 0)).Leads() {
		t.Error("Leads")
	}
}

func TestNothingBeyondTheRoom(t *testing.T) {
	r := of(3, -1, 0, 0, -1, 3, 0, 0, 3, 64, 64)
	want(t, "beyond", r, 3)
	want(t, "no relation", New(-1), 0)
	if New(Most+1).Of(0) != 0 || New(Most).Has(Most-1, Most-1) {
		t.Error("a relation of too many")
	}
}
