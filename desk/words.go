package desk

import (
	"strconv"
	"strings"

	"sealchain/api"
)

// word is one of a line, as what it stands for.
type word struct {
	text   string
	quoted bool
}

// Where a scanner is in a line.
const (
	between = iota
	inBare
	inQuoted
	escaped
	firstDigit
	secondDigit
	behindQuote
)

// scanner takes a line apart, one character after the other.
type scanner struct {
	words []word
	state int
	text  []byte
	digit int // the first one of two
}

func (s *scanner) end(quoted bool, state int) bool {
	s.words = append(s.words, word{string(s.text), quoted})
	s.text = nil
	s.state = state
	return true
}

func (s *scanner) add(b byte, state int) bool {
	s.text = append(s.text, b)
	s.state = state
	return true
}

func (s *scanner) to(state int) bool {
	s.state = state
	return true
}

// isPlain tells whether a character stands for itself.
func isPlain(r rune) bool { return r >= ' ' && r <= '~' && r != '"' }

// take takes one character; false if it may not be there.
func (s *scanner) take(r rune) bool {
	switch s.state {
	case between:
		return s.takeFirst(r)
	case inBare:
		if r == ' ' {
			return s.end(false, between)
		}
		return isPlain(r) && s.add(byte(r), inBare)
	case inQuoted:
		return s.takeQuoted(r)
	case escaped:
		return s.takeEscaped(r)
	case firstDigit:
		n, is := hexDigit(r)
		s.digit = n
		return is && s.to(secondDigit)
	case secondDigit:
		n, is := hexDigit(r)
		return is && s.add(byte(16*s.digit+n), inQuoted)
	}
	return r == ' ' && s.to(between) // behind a quoted word
}

func (s *scanner) takeFirst(r rune) bool {
	switch {
	case r == ' ':
		return true
	case r == '"':
		return s.to(inQuoted)
	}
	return isPlain(r) && s.add(byte(r), inBare)
}

func (s *scanner) takeQuoted(r rune) bool {
	switch r {
	case '"':
		return s.end(true, behindQuote)
	case '\\':
		return s.to(escaped)
	}
	return isPlain(r) && s.add(byte(r), inQuoted)
}

func (s *scanner) takeEscaped(r rune) bool {
	switch r {
	case '"', '\\':
		return s.add(byte(r), inQuoted)
	case 'n':
		return s.add('\n', inQuoted)
	case 'x':
		return s.to(firstDigit)
	}
	return false
}

func hexDigit(r rune) (int, bool) {
	i := strings.IndexRune(hexDigits, r)
	return i, i >= 0
}

const hexDigits = "0123456789abcdef"

// split tells a line's words.
func split(line string) ([]word, api.Errno) {
	var s scanner
	for _, r := range line {
		if r == '#' && s.state == between && len(s.words) == 0 {
			return nil, api.OK // a remark may be anything
		}
		if !s.take(r) {
			return nil, api.ErrForm
		}
	}
	switch s.state {
	case inBare:
		s.end(false, between)
	case between, behindQuote:
	default:
		return nil, api.ErrForm
	}
	return s.words, api.OK
}

// Split tells a line's words.
func Split(line string) ([]string, api.Errno) {
	words, e := split(line)
	if e != api.OK {
		return nil, e
	}
	var all []string
	for _, w := range words {
		all = append(all, w.text)
	}
	return all, api.OK
}

// Quote quotes a word.
func Quote(word string) string {
	out := []byte{'"'}
	for i := range len(word) {
		switch b := word[i]; {
		case b == '"' || b == '\\':
			out = append(out, '\\', b)
		case b == '\n':
			out = append(out, '\\', 'n')
		case b >= ' ' && b <= '~':
			out = append(out, b)
		default:
			out = append(out, '\\', 'x', hexDigits[b>>4], hexDigits[b&15])
		}
	}
	return string(append(out, '"'))
}

// number is what a word says, if it is a number.
func (w word) number() (int, bool) {
	digits := strings.TrimPrefix(w.text, "-")
	if w.quoted || len(digits) < 1 || len(digits) > 9 || digits[0] == '0' && w.text != "0" {
		return 0, false
	}
	for i := range len(digits) {
		if digits[i] < '0' || digits[i] > '9' {
			return 0, false
		}
	}
	n, err := strconv.Atoi(w.text)
	return n, err == nil
}
