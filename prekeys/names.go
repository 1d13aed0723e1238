package prekeys

// maxLetters is how many letters and digits a name has at most (P3).
const maxLetters = 16

func standsInName(letter rune) bool {
	switch {
	case letter >= 'a' && letter <= 'z', letter >= '0' && letter <= '9':
		return true
	case letter == '\u00f7': // the division sign, in the middle of the letters
		return false
	}
	return letter >= '\u00e0' && letter <= '\u00ff'
}
