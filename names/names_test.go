package names_test

import (
	"strings"
	"testing"
	"unicode/utf8"

	"notary/names"
)

const maxName = 100

func checkName(t *testing.T, s string, want bool) {
	t.Helper()
	if got := names.Right(s); got != want {
		t.Errorf("Right(%q) = %t", s, got)
	}
}

// What counts are bytes, not runes.
func TestI1Lengths(t *testing.T) {
	for _, char := range []string{"a", " ", "\x00", "é", "€", "😀"} {
		for n := range 2*maxName + 1 {
			s := strings.Repeat(char, n)
			checkName(t, s, n > 0 && len(s) <= maxName)
		}
	}
	checkName(t, strings.Repeat("a", 1000000), false)
}

func TestI1Signs(t *testing.T) {
	for _, s := range []string{"it", "\"", "\\", "\n", "\x7f", "a b", "https://a.b/c", "\u0080", "\u07ff", "\u0800", "\ud7ff", "\ue000", "\ufffd", "\uffff", "\U00010000", "\U0010ffff"} {
		checkName(t, s, true)
	}
}

// startsRight tells of one, two, three or four bytes whether they are a right sequence, by the words of chapter 3.
func startsRight(s string) bool {
	more := func(from, low, high byte) bool { return s[from] >= low && s[from] <= high }
	switch b := s[0]; len(s) {
	case 1:
		return b <= 0x7F
	case 2:
		return b >= 0xC2 && b <= 0xDF && more(1, 0x80, 0xBF)
	case 3:
		low, high := byte(0x80), byte(0xBF)
		if b == 0xE0 {
			low = 0xA0
		}
		if b == 0xED {
			high = 0x9F
		}
		return b >= 0xE0 && b <= 0xEF && more(1, low, high) && more(2, 0x80, 0xBF)
	case 4:
		low, high := byte(0x80), byte(0xBF)
		if b == 0xF0 {
			low = 0x90
		}
		if b == 0xF4 {
			high = 0x8F
		}
		return b >= 0xF0 && b <= 0xF4 && more(1, low, high) && more(2, 0x80, 0xBF) && more(3, 0x80, 0xBF)
	}
	return false
}

// allRight cuts a text into right sequences; no right one begins another, so there is one way to do it.
func allRight(s string) bool {
	for len(s) > 0 {
		size := 1
		for size < utf8.UTFMax && size < len(s) && !startsRight(s[:size]) {
			size++
		}
		if !startsRight(s[:size]) {
			return false
		}
		s = s[size:]
	}
	return true
}

// All texts of one, two and three bytes of those at which the words of chapter 3 part ways, and some of four.
func TestI1Bytes(t *testing.T) {
	edges := []byte{0x00, 0x41, 0x7F, 0x80, 0x8F, 0x90, 0x9F, 0xA0, 0xBF, 0xC0, 0xC1, 0xC2, 0xDF, 0xE0, 0xE1, 0xEC, 0xED, 0xEE, 0xEF, 0xF0, 0xF1, 0xF3, 0xF4, 0xF5, 0xFF}
	texts := []string{""}
	for range 4 {
		var longer []string
		for _, s := range texts {
			for _, b := range edges {
				s := s + string([]byte{b})
				checkName(t, s, allRight(s))
				longer = append(longer, s)
			}
		}
		texts = longer
	}
	for _, wrong := range []string{"\xff", "\x80", "\xc3", "\xed\xa0\x80", "\xf4\x90\x80\x80"} {
		checkName(t, "it"+wrong, false)
		checkName(t, wrong+"it", false)
		checkName(t, strings.Repeat("a", maxName-len(wrong))+wrong, false)
	}
}
