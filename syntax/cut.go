package syntax

// word is a bracket or a word of a text, with the place of its first byte.
type word struct {
	text string
	at   int
}

// end is the text of what stands behind the last word.
const end = ""

// cut gives the brackets and words of a text, and behind them the end, at the text's length.
func cut(text string) []word {
	var l []word
	for at := 0; at < len(text); {
		n := wordLength(text[at:])
		if n > 0 {
			l = append(l, word{text[at : at+n], at})
		}
		at += max(n, 1)
	}
	return append(l, word{end, len(text)})
}

// wordLength tells how many bytes the word or bracket at the front of a text has; 0 if none begins there.
func wordLength(text string) int {
	if isBracket(text[0]) {
		return 1
	}
	n := 0
	for n < len(text) && !isBracket(text[n]) && !isGap(text[n]) {
		n++
	}
	return n
}

func isBracket(b byte) bool { return b == '(' || b == ')' }

func isGap(b byte) bool { return b == ' ' || b == '\n' }
