package impl

import (
	"strconv"
	"strings"
)

const maxPadding = 2000

func FormatInt(n int) string {
	return strconv.Itoa(n)
}

func ParseInt(s string) (int, bool) {
	n, err := strconv.Atoi(s)
	// Atoi also reads a plus sign, leading zeros and -0, which FormatInt never writes.
	if err != nil || FormatInt(n) != s {
		return 0, false
	}
	return n, true
}

func IsDigits(s string) bool {
	for _, r := range s {
		if !isDigit(r) {
			return false
		}
	}
	return s != ""
}

func IsName(s string) bool {
	if len(s) < 1 || len(s) > 8 {
		return false
	}
	for i, r := range s {
		if !isLetter(r) && (i == 0 || !isDigit(r)) {
			return false
		}
	}
	return true
}

func isDigit(r rune) bool {
	return r >= '0' && r <= '9'
}

func isLetter(r rune) bool {
	return r >= 'a' && r <= 'z'
}

func SplitAny(s string, by string) []string {
	// A separator is a byte, which may be a part of a rune, so a scan of runes would miss it.
	var cuts [256]bool
	for i := 0; i < len(by); i++ {
		cuts[by[i]] = true
	}
	var parts []string
	start := 0
	for i := 0; i < len(s); i++ {
		if cuts[s[i]] {
			parts = append(parts, s[start:i])
			start = i + 1
		}
	}
	return append(parts, s[start:])
}

func SplitLines(s string) []string {
	var lines []string
	start := 0
	for i, r := range s {
		if r == '\n' {
			lines = append(lines, s[start:i])
			start = i + 1
		}
	}
	if start < len(s) {
		lines = append(lines, s[start:])
	}
	return lines
}

func Join(l []string, by string) string {
	return joinParts(by, l...)
}

func PadZeros(s string, n int) string {
	if n <= len(s) || n > maxPadding {
		return s
	}
	return joinParts("", strings.Repeat("0", n-len(s)), s)
}

func joinParts(by string, parts ...string) string {
	return strings.Join(parts, by)
}
