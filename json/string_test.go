package json_test

import (
	"fmt"
	"strings"
	"testing"
	"unicode/utf16"

	"notary/api"
)

func TestJ1Escapes(t *testing.T) {
	checkString(t, `\"\\\/\b\f\n\r\t`, "\"\\/\x08\x0c\x0a\x0d\x09")
	checkString(t, `a\nb\u0041\u00e9\u20AC\uFfFfc`, "a\nbAé€\uffffc")
	for b := range 256 {
		if !strings.ContainsRune(`"\/bfnrtu`, rune(b)) {
			checkWrong(t, `"a\`+string([]byte{byte(b)})+`"`, api.ErrText, 3)
		}
	}
	checkWrong(t, `"\`, api.ErrText, 2)
	checkWrong(t, `"\"`, api.ErrText, 3)
	checkWrong(t, `"\\\"`, api.ErrText, 5)
}

func TestJ1FourSigns(t *testing.T) {
	for b := range 256 {
		sign := string([]byte{byte(b)})
		for i := range 4 {
			four := strings.Repeat("0", i) + sign + strings.Repeat("0", 3-i)
			if n := strings.Index("0123456789abcdef", strings.ToLower(sign)); n >= 0 {
				if n != 13 || i != 0 {
					checkString(t, `\u`+four, string(rune(n<<(12-4*i))))
				}
			} else {
				checkWrong(t, `"\u`+four+`"`, api.ErrText, 3+i)
			}
		}
	}
	for i := range 4 {
		checkWrong(t, `"\u`+"dead"[:i], api.ErrText, 3+i)
	}
}

func half(n int) string { return fmt.Sprintf(`\u%04x`, n) }

func TestJ1EveryUnitAlone(t *testing.T) {
	for n := range 1 << 16 {
		if n < 0xD800 || n > 0xDFFF {
			checkString(t, half(n), string(rune(n)))
		} else {
			checkWrong(t, `"a`+half(n)+`"`, api.ErrText, 2)
		}
	}
}

func TestJ1Pairs(t *testing.T) {
	checkString(t, `\uD800\uDC00`, "\U00010000")
	checkString(t, `\udbff\udfff`, "\U0010ffff")
	checkString(t, `a\uD83D\uDE00b\uD83D\uDE01`, "a😀b😁")
	for first := 0xD800; first < 0xDC00; first++ {
		second := 0xDC00 + first*37%1024
		checkString(t, half(first)+half(second), string(utf16.DecodeRune(rune(first), rune(second))))
		checkString(t, half(0xD800)+half(first+0x400), string(utf16.DecodeRune(0xD800, rune(first+0x400))))
	}
}

func TestJ1HalvesAlone(t *testing.T) {
	for _, first := range []string{`\ud800`, `\uD83D`, `\uDBFF`} {
		for _, behind := range []string{``, `"`, `x"`, `\"`, `\n"`, `\x`, `\`, `\u`, `\u"`, `\udc0`, `\udc0"`, `\udc0g"`, `\u0041"`, `\uDBFF"`, `\uE000"`, `\ud800\udc00"`, `\U`, ` \udc00"`, `udc00"`, "\xff", "\x01", "é"} {
			checkWrong(t, `"`+first+behind, api.ErrText, 1)
			checkWrong(t, `{"ab`+first+behind, api.ErrText, 4)
		}
	}
	for _, second := range []string{`\uDC00`, `\ude00`, `\uDFFF`} {
		checkWrong(t, `"`+second+`"`, api.ErrText, 1)
		checkWrong(t, `"`+second+second+`"`, api.ErrText, 1)
		checkWrong(t, `"`+second+`\ud800"`, api.ErrText, 1)
		checkWrong(t, `"\ud800\udc00`+second+`"`, api.ErrText, 13)
		checkWrong(t, `"\u0041`+second, api.ErrText, 7)
	}
	checkWrong(t, `"\ud80`, api.ErrText, 6)
	checkWrong(t, `"\ud80x\udc00"`, api.ErrText, 6)
}

// The rows of the chapter's list: the first byte, the second one, how many more.
var rows = []struct{ first, last, low, high, more int }{
	{0xC2, 0xDF, 0x80, 0xBF, 0}, {0xE0, 0xE0, 0xA0, 0xBF, 1}, {0xE1, 0xEC, 0x80, 0xBF, 1}, {0xEE, 0xEF, 0x80, 0xBF, 1},
	{0xED, 0xED, 0x80, 0x9F, 1}, {0xF0, 0xF0, 0x90, 0xBF, 2}, {0xF1, 0xF3, 0x80, 0xBF, 2}, {0xF4, 0xF4, 0x80, 0x8F, 2},
}

// rightBytes tells how many bytes the character has with which s begins, or 0.
func rightBytes(s string) int {
	for _, r := range rows {
		if len(s) < 2+r.more || int(s[0]) < r.first || int(s[0]) > r.last || int(s[1]) < r.low || int(s[1]) > r.high {
			continue
		}
		for _, more := range []byte(s[2 : 2+r.more]) {
			if more < 0x80 || more > 0xBF {
				return 0
			}
		}
		return 2 + r.more
	}
	return 0
}

func TestJ1Characters(t *testing.T) {
	tails := []string{"", "\x80", "\xbf", "\x7f", "\xc0", "\x80\x80", "\xbf\xbf", "\x80\x7f", "\x80\xc0", "\x80\xbf\x80", "\x7f\x80", "\"", "\x80\"", "a", "\x80\x80\x80"}
	for first := 0x80; first < 256; first++ {
		for second := 0x20; second < 256; second++ {
			for _, tail := range tails {
				checkCharacters(t, string([]byte{byte(first), byte(second)})+tail)
			}
		}
		checkWrong(t, `"`+string([]byte{byte(first)}), api.ErrText, 1)
		checkWrong(t, `"a`+string([]byte{byte(first)})+`"`, api.ErrText, 2)
	}
}

// checkCharacters holds Parse to a string of one sequence and what stands behind it.
func checkCharacters(t *testing.T, s string) {
	t.Helper()
	text := `"` + s + `"`
	i := 1
	for text[i] != '"' && text[i] != '\\' {
		n := rightBytes(text[i:])
		if text[i] < 0x80 {
			n = 1
		}
		if n == 0 {
			checkWrong(t, text, api.ErrText, i)
			checkWrong(t, text[:len(text)-1], api.ErrText, i)
			return
		}
		i += n
	}
	if i == len(text)-1 {
		checkString(t, s, s)
	}
}

func TestJ1OneByteCharacters(t *testing.T) {
	for b := range 128 {
		sign := string(rune(b))
		if b < 32 {
			checkWrong(t, `"ab`+sign+`"`, api.ErrText, 3)
		} else if sign != `"` && sign != `\` {
			checkString(t, "ab"+sign, "ab"+sign)
		}
	}
	checkWrong(t, "\"a\x00", api.ErrText, 2)
	checkString(t, `\u0000`, "\x00")
}
