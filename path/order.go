package path

import "strings"

// Compare compares paths: what is no path is ahead of each.
func Compare(a, b string) int {
	switch isA, isB := isPath(a), isPath(b); {
	case isA && isB:
		return byParts(a, b)
	case isA:
		return 1
	case isB:
		return -1
	default:
		return strings.Compare(a, b)
	}
}

// byParts compares paths by their first parts, and by what is left behind these, if they are alike.
func byParts(a, b string) int {
	firstA, restA, moreA := strings.Cut(a, between)
	firstB, restB, moreB := strings.Cut(b, between)
	switch first := strings.Compare(firstA, firstB); {
	case first != 0:
		return first
	case moreA && moreB:
		return byParts(restA, restB)
	case moreA:
		return 1
	case moreB:
		return -1
	default:
		return 0
	}
}

// Under tells whether a path lies under another one.
func Under(s, dir string) bool {
	return isPath(s) && isPath(dir) && strings.HasPrefix(s, dir+between)
}
