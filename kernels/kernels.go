// Package kernels: small kernels against two models of memory: see DOC.md.
package kernels

import (
	"kernels/api"
	"kernels/asm"
	"kernels/parse"
	"kernels/source"
	"kernels/target"
	"kernels/ways"
)

// Compile makes instructions of a kernel (P8 to P10).
func Compile(s string, way int) (string, api.Errno, int) {
	if way < 0 || way >= api.Ways {
		return "", api.ErrArg, 0
	}
	p, fault, line := parse.Kernel(s)
	if fault != api.OK {
		return "", fault, line
	}
	if way&api.Opt != 0 {
		p = ways.Trimmed(p)
	}
	if way&api.Fences != 0 {
		p = ways.Fenced(p)
	}
	return asm.Write(p), api.OK, 0
}

// Source tells what may come out of a kernel (P7).
func Source(s string) ([][]int, bool, api.Errno, int) {
	p, fault, line := parse.Kernel(s)
	if fault != api.OK {
		return nil, false, fault, line
	}
	outcomes, clash := source.Outcomes(p)
	return outcomes, clash, api.OK, 0
}

// Target tells what may come out of instructions (P11, P12).
func Target(s string) ([][]int, bool, api.Errno, int) {
	p, fault, line := asm.Read(s)
	if fault != api.OK {
		return nil, false, fault, line
	}
	outcomes, clash := target.Outcomes(p)
	return outcomes, clash, api.OK, 0
}
