// Package text cuts texts into their parts.
package text

// Split cuts s wherever between stands. What stands there too often leaves
// empty parts, which are nothing to those who read them.
func Split(s string, between string) []string {
	var parts []string
	if len(between) == 0 {
		return append(parts, s)
	}
	from := 0
	for i := 0; i+len(between) <= len(s); i++ {
		if i >= from && s[i:i+len(between)] == between {
			parts = append(parts, s[from:i])
			from = i + len(between)
		}
	}
	return append(parts, s[from:])
}

// Lines are the lines of s that are ended, and whether all are.
func Lines(s string) ([]string, bool) {
	parts := Split(s, "\n")
	last := len(parts) - 1
	if last < 0 {
		return nil, true
	}
	return parts[:last], parts[last] == ""
}
