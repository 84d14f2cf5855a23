package impl

import (
	"iter"
	"strconv"
)

const MaxText = 20000

const (
	maxDecDigits = 9
	maxHexDigits = 8
	hexSigns     = "0123456789ABCDEF"
)

// DecText writes n in decimal digits, with - ahead below 0.
func DecText(n int) string {
	return strconv.Itoa(n)
}

// ReadDec reads the number of 0 .. 999999999 whose DecText s is; -1 where there is none.
func ReadDec(s string) int {
	if s == "" || len(s) > maxDecDigits {
		return -1
	}
	// DecText writes no needless nought ahead, so 0 alone may begin with one.
	if s[0] == '0' && len(s) > 1 {
		return -1
	}
	return readDigits(s, 10)
}

// HexText writes the lowest digits of n in base 16; nothing where n or digits is refused.
func HexText(n int, digits int) string {
	if n < 0 || !hexDigitsOk(digits) {
		return ""
	}
	text := make([]byte, digits)
	for i := digits - 1; i >= 0; i-- {
		text[i] = hexSigns[n%16]
		n /= 16
	}
	return string(text)
}

// ReadHex reads the number of just so many digits whose HexText s is; -1 where there is none.
func ReadHex(s string, digits int) int {
	if !hexDigitsOk(digits) || len(s) != digits {
		return -1
	}
	return readDigits(s, 16)
}

// Lines tells the texts between newlines, without the last one where that is empty.
func Lines(s string) []string {
	var lines []string
	for part := range parts(s, isNewline) {
		lines = append(lines, part)
	}
	// There is always a part behind the last newline, be it an empty one.
	last := len(lines) - 1
	if lines[last] == "" {
		lines = lines[:last]
	}
	return lines
}

// Words tells the longest parts of s without blanks and bytes 9.
func Words(s string) []string {
	var words []string
	for part := range parts(s, isBlank) {
		if part != "" {
			words = append(words, part)
		}
	}
	return words
}

func hexDigitsOk(digits int) bool {
	return digits >= 1 && digits <= maxHexDigits
}

// readDigits tells -1 where a sign of s is no digit of the base. Its callers
// see to it that s is short enough for an int.
func readDigits(s string, base int) int {
	n := 0
	for _, sign := range s {
		digit := digitOf(sign)
		if digit < 0 || digit >= base {
			return -1
		}
		n = n*base + digit
	}
	return n
}

// digitOf knows great letters alone, since HexText writes no small ones.
func digitOf(sign rune) int {
	switch {
	case sign >= '0' && sign <= '9':
		return int(sign - '0')
	case sign >= 'A' && sign <= 'F':
		return int(sign-'A') + 10
	}
	return -1
}

// parts yields what stands ahead of, between and behind the gaps of s, empty
// parts too. A gap is a sign below 128: such a sign is one byte long, and is
// found even among bytes that are no text.
func parts(s string, gap func(sign rune) bool) iter.Seq[string] {
	return func(yield func(part string) bool) {
		begin := 0
		for i, sign := range s {
			if !gap(sign) {
				continue
			}
			if !yield(s[begin:i]) {
				return
			}
			begin = i + 1
		}
		yield(s[begin:])
	}
}

func isNewline(sign rune) bool {
	return sign == 10
}

func isBlank(sign rune) bool {
	return sign == 32 || sign == 9
}
