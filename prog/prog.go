// Package prog: a kernel or a text of instructions once it is read, and what
// is asked of both whatever text they came from.
package prog

import "kernels/api"

// The kinds of statements.
const (
	Load    = 0
	Store   = 1
	Add     = 2
	Swap    = 3
	Fence   = 4
	Barrier = 5
	Move    = 6
	Plus    = 7
	Minus   = 8
	Equal   = 9
	If      = 10
	End     = 11
)

// Blocks is how many blocks there are for threads to stand in.
const Blocks = 2

// Operand is a register, or the number itself.
type Operand struct {
	IsReg bool
	N     int
}

// Stmt is one statement; what its kind has no use for stays 0.
type Stmt struct {
	Kind  int
	Line  int
	Dest  int
	Var   int
	A     Operand
	B     Operand
	Order int
	Scope int
	Label int // of an if and of its end: which if of the whole text, from 1
}

// Thread is what stands below a thread's line.
type Thread struct {
	Block int
	Line  int
	Stmts []Stmt
}

// Program is a text that is read.
type Program struct {
	Threads []Thread
}

// Allows tells whether the order may stand with statements of this kind.
func Allows(kind int, order int) bool {
	switch kind {
	case Load:
		return order == api.Weak || order == api.Relaxed || order == api.Acquire
	case Store:
		return order == api.Weak || order == api.Relaxed || order == api.Release
	case Add, Swap:
		return order == api.Relaxed || order == api.Acquire || order == api.Release || order == api.AcqRel
	case Fence:
		return order == api.AcqRel || order == api.SC
	}
	return false
}

// Reads tells whether statements of this kind read a variable.
func Reads(kind int) bool {
	return kind == Load || kind == Add || kind == Swap
}

// Writes tells whether statements of this kind write a variable.
func Writes(kind int) bool {
	return kind == Store || kind == Add || kind == Swap
}

// IsAccess tells whether statements of this kind are of a variable.
func IsAccess(kind int) bool {
	return kind == Load || kind == Store || kind == Add || kind == Swap
}

// Reaches tells whether the statement is a load, store or step of the
// variable.
func (st Stmt) Reaches(v int) bool {
	return IsAccess(st.Kind) && st.Var == v
}

// Acquires tells whether what is of this order may be told something.
func Acquires(order int) bool {
	return order == api.Acquire || order == api.AcqRel
}

// Releases tells whether what is of this order may tell something.
func Releases(order int) bool {
	return order == api.Release || order == api.AcqRel
}
