// Package text is layer 1: names, numbers, fields and lines. See shared/doc/01-text.md.
package text

import (
	"strconv"
	"strings"

	"tollway/api"
)

const hexDigits = "0123456789ABCDEF"

// Name reports whether s is a name.
func Name(s string) bool {
	if s == "" || len(s) > api.MaxName {
		return false
	}
	for i, r := range s {
		letter := 'a' <= r && r <= 'z'
		inside := '0' <= r && r <= '9' || r == '-'
		if !letter && (i == 0 || !inside) {
			return false
		}
	}
	return true
}

// Fields splits a line at its blanks.
func Fields(line string) ([]string, api.Errno) {
	if len(line) > api.MaxLine {
		return nil, api.ErrLong
	}
	if line == "" {
		return nil, api.OK
	}
	var l []string
	from := 0
	for i, r := range line {
		if r < ' ' || r > '~' {
			return nil, api.ErrForm
		}
		if r == ' ' {
			if i == from {
				return nil, api.ErrForm
			}
			l = append(l, line[from:i])
			from = i + 1
		}
	}
	if from == len(line) {
		return nil, api.ErrForm
	}
	return append(l, line[from:]), api.OK
}

// Join joins fields with blanks.
func Join(l []string) string { return strings.Join(l, " ") }

// Number parses a decimal number.
func Number(s string) (int, api.Errno) {
	if !isNumber(s) {
		return 0, api.ErrForm
	}
	digits, sign := s, 1
	if s[0] == '-' {
		digits, sign = s[1:], -1
	}
	n := 0
	for _, r := range digits {
		n = 10*n + int(r-'0')
		if n > api.MaxNumber { // a longer number only grows, and could overflow
			return 0, api.ErrRange
		}
	}
	return sign * n, api.OK
}

// isNumber reports whether s is the textual form of an integer of any size.
func isNumber(s string) bool {
	digits := strings.TrimPrefix(s, "-")
	if digits == "" || digits[0] == '0' && s != "0" {
		return false
	}
	for _, r := range digits {
		if r < '0' || r > '9' {
			return false
		}
	}
	return true
}

// Format formats a number.
func Format(n int) string { return strconv.Itoa(n) }

// Lines splits a text into lines.
func Lines(s string) ([]string, api.Errno) {
	if len(s) > api.MaxText {
		return nil, api.ErrLong
	}
	var l []string
	from := 0
	for i, r := range s {
		if r == '\n' {
			l = append(l, s[from:i])
			from = i + 1
		}
	}
	if from < len(s) {
		l = append(l, s[from:])
	}
	return l, api.OK
}

// plain reports whether Escape copies the byte.
func plain(c byte) bool { return c > ' ' && c <= '~' && c != '%' }

// Escape encodes any string as a field.
func Escape(s string) string {
	if s == "" {
		return "%"
	}
	b := make([]byte, 0, len(s))
	for i := range len(s) {
		if c := s[i]; plain(c) {
			b = append(b, c)
		} else {
			b = append(b, '%', hexDigits[c>>4], hexDigits[c&15])
		}
	}
	return string(b)
}

// Unescape decodes what Escape produces.
func Unescape(s string) (string, api.Errno) {
	if s == "%" {
		return "", api.OK
	}
	if s == "" {
		return "", api.ErrForm
	}
	b := make([]byte, 0, len(s))
	for i := 0; i < len(s); i++ {
		if plain(s[i]) {
			b = append(b, s[i])
			continue
		}
		c, ok := escaped(s[i:])
		if !ok {
			return "", api.ErrForm
		}
		b = append(b, c)
		i += 2
	}
	return string(b), api.OK
}

// escaped returns the byte whose escape s begins with.
func escaped(s string) (byte, bool) {
	if len(s) < 3 || s[0] != '%' {
		return 0, false
	}
	high := strings.IndexByte(hexDigits, s[1])
	low := strings.IndexByte(hexDigits, s[2])
	if high < 0 || low < 0 {
		return 0, false
	}
	c := byte(high<<4 | low)
	return c, !plain(c)
}
