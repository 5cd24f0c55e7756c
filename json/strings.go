package json

import (
	"strings"
	"unicode/utf8"

	"notary/api"
)

// The bytes that the one form writes by a short escape, and the signs of these, in the same order.
const (
	shortBytes = "\"\\\b\f\n\r\t"
	shortSigns = "\"\\bfnrt"
)

// The capital signs stand behind the others, so that the place of those is their number.
const hexSigns = "0123456789abcdefABCDEF"

// The numbers of 16 bits that are no rune by themselves: first halves, then second ones.
const (
	firstHalves  = 0xD800
	secondHalves = 0xDC00
	behindHalves = 0xE000
	oneUnit      = 0x10000 // from this rune on, two halves write it
)

func isFirstHalf(n rune) bool { return firstHalves <= n && n < secondHalves }

func isSecondHalf(n rune) bool { return secondHalves <= n && n < behindHalves }

// readString tells the bytes that a string stands for.
func (r *reader) readString() string {
	r.need('"')
	var out []byte
	for !r.take('"') {
		if r.peek() == '\\' {
			out = utf8.AppendRune(out, r.readEscape())
		} else {
			out = append(out, r.readCharacter()...)
		}
	}
	return string(out)
}

// readCharacter tells a character's bytes; whatever is wrong with them, the first one is the place.
func (r *reader) readCharacter() string {
	start := r.at
	char, size := utf8.DecodeRuneInString(r.text[start:])
	if r.peek() < ' ' || char == utf8.RuneError && size == 1 {
		r.fail()
	}
	r.at += size
	return r.text[start:r.at]
}

func (r *reader) readEscape() rune {
	r.need('\\')
	if r.take('u') {
		return r.readRune()
	}
	if r.take('/') {
		return '/'
	}
	i := strings.IndexByte(shortSigns, r.peek())
	if i < 0 {
		r.fail()
	}
	r.at++
	return rune(shortBytes[i])
}

// readRune reads what stands behind `\u`. A half that has no other one is wrong as a whole, so its place is the `\` ahead of what has been read of it.
func (r *reader) readRune() rune {
	n := r.readFour()
	if isFirstHalf(n) {
		if second, ok := r.try(r.readSecondHalf); ok {
			return oneUnit + (n-firstHalves)<<10 + second - secondHalves
		}
	}
	if isFirstHalf(n) || isSecondHalf(n) {
		throw(api.ErrText, r.at-len(`\uD800`))
	}
	return n
}

// try reads what may stand here; if it does not, the cursor is where it was.
func (r *reader) try(read func() rune) (n rune, ok bool) {
	was := r.cursor
	if wrong := catch(func() { n = read() }); wrong.err != api.OK {
		r.cursor = was
		return 0, false
	}
	return n, true
}

func (r *reader) readSecondHalf() rune {
	r.need('\\')
	r.need('u')
	n := r.readFour()
	if !isSecondHalf(n) {
		r.fail()
	}
	return n
}

// readFour tells the number that four signs write.
func (r *reader) readFour() rune {
	n := 0
	for range 4 {
		sign := strings.IndexByte(hexSigns, r.peek())
		if sign < 0 {
			r.fail()
		}
		if sign > 15 {
			sign -= 6
		}
		n = n<<4 + sign
		r.at++
	}
	return rune(n)
}
