package lex

// The bytes that have an escape in strings, and behind \ the letter of each one, in the same order.
const (
	escapedBytes  = "\"\\\t\n\f\r"
	escapeLetters = `"\tnfr`
)

// noDigit is what digitOf returns for what is a digit to no base.
const noDigit = 99

func isBlank(b byte) bool { return b == ' ' || b == '\t' || b == '\n' || b == '\r' }

func isLetter(b byte) bool { return 'A' <= b && b <= 'Z' || 'a' <= b && b <= 'z' }

func isDigit(b byte) bool { return '0' <= b && b <= '9' }

func isRun(b byte) bool { return isLetter(b) || isDigit(b) || b == '_' }

func isPrintable(b byte) bool { return 32 <= b && b <= 126 }

// digitOf returns the value of a digit to the base 16.
func digitOf(b byte) int {
	switch {
	case isDigit(b):
		return int(b - '0')
	case 'a' <= b && b <= 'f':
		return int(b-'a') + 10
	case 'A' <= b && b <= 'F':
		return int(b-'A') + 10
	}
	return noDigit
}

// countFirst returns how many bytes at the beginning of s are as is says.
func countFirst(s string, is func(b byte) bool) int {
	n := 0
	for n < len(s) && is(s[n]) {
		n++
	}
	return n
}

func hasLetter(s string) bool {
	return countFirst(s, func(b byte) bool { return !isLetter(b) }) < len(s)
}
