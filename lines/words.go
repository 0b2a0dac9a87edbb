package lines

import "unicode/utf8"

// register, figure and name are what a word may be.
type (
	register uint8
	figure   struct {
		size  uint64
		minus bool
		vast  bool // above all that 64 bits hold
	}
	name string
)

// notLine is what is panicked with where a line is none; Read catches it.
type notLine struct{}

const (
	noBreak   = 0x00a0
	wideBlank = 0x2003
	minusSign = 0x2212
	lastReg   = 10
	ten       = 10
)

// split parts a text by bytes 10.
func split(s string) []string {
	var all []string
	from := 0
	for i, r := range s {
		if r == '\n' {
			all = append(all, s[from:i])
			from = i + 1
		}
	}
	return append(all, s[from:])
}

func blank(r rune) bool {
	switch r {
	case '\t', '\r', ' ', noBreak, wideBlank:
		return true
	}
	return false
}

// wordsOf is a line's words, up to a ; in it.
func wordsOf(line string) []string {
	if !utf8.ValidString(line) {
		panic(notLine{})
	}
	var words []string
	from := -1
	end := len(line)
	for i, r := range line {
		if r == ';' {
			end = i
			break
		}
		if !blank(r) {
			if from < 0 {
				from = i
			}
		} else if from >= 0 {
			words = append(words, line[from:i])
			from = -1
		}
	}
	if from >= 0 {
		words = append(words, line[from:end])
	}
	return words
}

// meaning tells a register, a figure, or a name.
func meaning(word string) any {
	if r, ok := registerOf(word); ok {
		return r
	}
	if f, ok := figureOf(word); ok {
		return f
	}
	return name(word)
}

func registerOf(word string) (register, bool) {
	for r := range lastReg + 1 {
		if word == reg(uint8(r)) {
			return register(r), true
		}
	}
	return 0, false
}

func figureOf(word string) (figure, bool) {
	var f figure
	digits := 0
	for i, r := range word {
		switch {
		case i == 0 && (r == '-' || r == minusSign):
			f.minus = true
		case i == 0 && r == '+':
		case r >= '0' && r <= '9':
			f = f.then(uint64(r - '0'))
			digits++
		default:
			return figure{}, false
		}
	}
	return f, digits > 0
}

// then is the figure with one more digit.
func (f figure) then(digit uint64) figure {
	const most = 1<<64 - 1
	f.vast = f.vast || f.size > (most-digit)/ten
	f.size = f.size*ten + digit
	return f
}

// from is the figure's number, if it lies from lo (0 or below) to hi.
func (f figure) from(lo int64, hi uint64) uint64 {
	if f.vast || f.minus && f.size > uint64(-lo) || !f.minus && f.size > hi {
		panic(notLine{})
	}
	if f.minus {
		return -f.size
	}
	return f.size
}
