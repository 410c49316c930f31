package relate

import (
	"kernels/api"
	"kernels/rel"
)

// reads leads from each read to the write that it reads.
func (f Facts) reads(reads []int) rel.Relation {
	r := rel.New(len(f.Events))
	for i, w := range reads {
		r.Add(i, w)
	}
	return r
}

// hangsOnItself tells whether something hangs on itself by way of 'hangs' and
// 'reads'.
func (f Facts) hangsOnItself(reads rel.Relation) bool {
	return f.hangs.Or(reads).Circles()
}

// Sees leads from each read to the writes that it sees: straight, or over
// steps that each saw the one ahead of them.
func (f Facts) Sees(reads rel.Relation) rel.Relation {
	straight := reads.And(f.Strong)
	over := straight.Then(f.halves).Closed()
	return straight.Or(over.Then(straight))
}

// Tells takes what Sees answers.
func (f Facts) Tells(sees rel.Relation) rel.Relation {
	heard := rel.New(len(f.Events))
	for r, a := range f.Events {
		for w, b := range f.Events {
			if sees.Has(r, w) && a.Order != api.Weak && b.Order != api.Weak {
				heard.Add(w, r)
			}
		}
	}
	return f.sends.Then(heard).Then(f.takes).And(f.Strong)
}
