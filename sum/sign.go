package sum

const hexSigns = "0123456789abcdef"

// isSign refuses A to F: of each byte there is one writing alone.
func isSign(c byte) bool {
	return '0' <= c && c <= '9' || 'a' <= c && c <= 'f'
}

// signValue is asked only of what isSign takes.
func signValue(c byte) byte {
	if c <= '9' {
		return c - '0'
	}
	return c - 'a' + 10
}

// firstWrongSign tells the text's length, if no sign is wrong.
func firstWrongSign(s string) int {
	for i := range len(s) {
		if !isSign(s[i]) {
			return i
		}
	}
	return len(s)
}
