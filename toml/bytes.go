package toml

const (
	blank = 32
	tab   = 9
	del   = 127
)

// These are asked of noByte too: it is none of anything.

func isBlank(c int) bool { return c == blank || c == tab }

func isDigit(c int) bool { return '0' <= c && c <= '9' }

func isSmall(c int) bool { return 'a' <= c && c <= 'z' }

func isBare(c int) bool {
	return isSmall(c) || 'A' <= c && c <= 'Z' || isDigit(c) || c == '_' || c == '-'
}

func isControl(c int) bool { return 0 <= c && c < blank || c == del }

// isBarred tells whether a byte may stand neither in a string nor in a comment.
func isBarred(c int) bool { return isControl(c) && c != tab }

// hexValue tells what a sign stands for, or -1.
func hexValue(c int) int {
	switch {
	case isDigit(c):
		return c - '0'
	case 'a' <= c && c <= 'f':
		return c - 'a' + 10
	case 'A' <= c && c <= 'F':
		return c - 'A' + 10
	}
	return -1
}
