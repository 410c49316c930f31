package parse

import (
	"kernels/api"
	"kernels/prog"
)

// digit reads one digit below n.
func digit(c byte, n int) (int, bool) {
	d := int(c) - '0'
	return d, d >= 0 && d < n
}

func register(word string) (int, bool) {
	if len(word) != 2 || word[0] != 'r' {
		return 0, false
	}
	return digit(word[1], api.Regs)
}

func operand(word string) (prog.Operand, bool) {
	if len(word) == 1 {
		n, ok := digit(word[0], api.Values)
		return prog.Operand{IsReg: false, N: n}, ok
	}
	n, ok := register(word)
	return prog.Operand{IsReg: true, N: n}, ok
}

func variable(word string) (int, bool) {
	switch word {
	case "x":
		return 0, true
	case "y":
		return 1, true
	case "z":
		return 2, true
	}
	return 0, false
}

func order(word string) (int, bool) {
	switch word {
	case "weak":
		return api.Weak, true
	case "relaxed":
		return api.Relaxed, true
	case "acquire":
		return api.Acquire, true
	case "release":
		return api.Release, true
	case "acqrel":
		return api.AcqRel, true
	case "sc":
		return api.SC, true
	}
	return 0, false
}

func scope(word string) (int, bool) {
	switch word {
	case "block":
		return api.Block, true
	case "device":
		return api.Device, true
	}
	return 0, false
}
