package prog

import "kernels/api"

// Draft is a program while its text is read, whatever the words of the text:
// kernels and instructions bound and nest what they have alike.
type Draft struct {
	threads []Thread
	most    int   // how many statements a thread may have; ends do not count
	count   int   // statements of the last thread
	ifs     int   // of the whole text
	open    []int // labels of the ifs that are not ended
}

// NewDraft is a draft of which nothing is read.
func NewDraft(most int) Draft {
	return Draft{most: most}
}

// Begin begins a thread; it answers false if none may begin here.
func (d *Draft) Begin(block int, line int) bool {
	if len(d.threads) >= api.MaxThreads || len(d.open) > 0 {
		return false
	}
	d.threads = append(d.threads, Thread{Block: block, Line: line})
	d.count = 0
	return true
}

// Put lays a statement at the end of the last thread, an if and an end with
// their label; it answers false if the statement cannot stand here.
func (d *Draft) Put(st Stmt) bool {
	if len(d.threads) == 0 {
		return false
	}
	if st.Kind == End {
		return d.end(st)
	}
	if d.count >= d.most {
		return false
	}
	d.count++
	if st.Kind == If {
		return d.branch(st)
	}
	d.lay(st)
	return true
}

func (d *Draft) branch(st Stmt) bool {
	if len(d.open) >= api.MaxDepth {
		return false
	}
	d.ifs++
	st.Label = d.ifs
	d.open = append(d.open, d.ifs)
	d.lay(st)
	return true
}

func (d *Draft) end(st Stmt) bool {
	last := len(d.open) - 1
	if last < 0 {
		return false
	}
	st.Label = d.open[last]
	d.open = d.open[:last]
	d.lay(st)
	return true
}

func (d *Draft) lay(st Stmt) {
	last := len(d.threads) - 1
	if last < 0 {
		return
	}
	d.threads[last].Stmts = append(d.threads[last].Stmts, st)
}

// NextLabel is the label that the next if would have.
func (d *Draft) NextLabel() int {
	return d.ifs + 1
}

// OpenLabel is the label of the if that an end here would end, 0 if there is
// none.
func (d *Draft) OpenLabel() int {
	last := len(d.open) - 1
	if last < 0 {
		return 0
	}
	return d.open[last]
}

// IsWhole tells whether the text may end here.
func (d *Draft) IsWhole() bool {
	return len(d.threads) > 0 && len(d.open) == 0
}

// Program is what was read.
func (d *Draft) Program() Program {
	return Program{Threads: d.threads}
}
