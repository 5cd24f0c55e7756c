package base_test

import (
	"encoding/base64"
	"strings"
	"testing"

	"notary/api"
	"notary/base"
)

const signs = "ABCDEFGHIJKLMNOPQRSTUVWXYZabcdefghijklmnopqrstuvwxyz0123456789-_"

var library = base64.RawURLEncoding.Strict()

// mixed tells n bytes of all kinds, another text for each n.
func mixed(n int) string {
	out := make([]byte, n)
	state := uint32(n) + 1
	for i := range out {
		state = state*1664525 + 1013904223
		out[i] = byte(state >> 24)
	}
	return string(out)
}

// allBytes tells the bytes from 0 to 255.
func allBytes() string {
	var out [256]byte
	for i := range out {
		out[i] = byte(i)
	}
	return string(out[:])
}

// bitByBit is E1 as its words say it, a bit at a time.
func bitByBit(data string) string {
	var bits strings.Builder
	for i := range len(data) {
		for j := 7; j >= 0; j-- {
			bits.WriteByte('0' + data[i]>>j&1)
		}
	}
	for bits.Len()%6 != 0 {
		bits.WriteByte('0')
	}
	var out strings.Builder
	for text := bits.String(); text != ""; text = text[6:] {
		group := 0
		for _, bit := range text[:6] {
			group = group*2 + int(bit-'0')
		}
		out.WriteByte(signs[group])
	}
	return out.String()
}

func checkEncode(t *testing.T, data, want string) {
	t.Helper()
	if got := base.Encode(data); got != want {
		t.Errorf("Encode(%q) = %q, want %q", data, got, want)
	}
}

func checkDecode(t *testing.T, text, data string) {
	t.Helper()
	got, e, place := base.Decode(text)
	if got != data || e != api.OK || place != 0 {
		t.Errorf("Decode(%q) = %q, %d, %d, want %q, 0, 0", text, got, e, place, data)
	}
}

func checkWrong(t *testing.T, text string, want int) {
	t.Helper()
	got, e, place := base.Decode(text)
	if got != "" || e != api.ErrText || place != want {
		t.Errorf("Decode(%q) = %q, %d, %d, want \"\", %d, %d", text, got, e, place, api.ErrText, want)
	}
}

var written = []struct{ data, text string }{
	{"", ""},
	{"f", "Zg"},
	{"fo", "Zm8"},
	{"foo", "Zm9v"},
	{"foob", "Zm9vYg"},
	{"fooba", "Zm9vYmE"},
	{"foobar", "Zm9vYmFy"},
	{"\x00", "AA"},
	{"\x00\x00", "AAA"},
	{"\x00\x00\x00", "AAAA"},
	{"\xff", "_w"},
	{"\xff\xfe", "__4"},
	{"\xff\xff", "__8"},
	{"\xff\xff\xff", "____"},
	{"\xfb\xef\xbe", "----"},
	{"\x80", "gA"},
	{"\x01", "AQ"},
	{"é", "w6k"},
}

func TestE1EncodeWritten(t *testing.T) {
	for _, c := range written {
		checkEncode(t, c.data, c.text)
	}
}

func TestE1EncodeEachByte(t *testing.T) {
	all := allBytes()
	for i := range len(all) {
		checkEncode(t, all[i:i+1], bitByBit(all[i:i+1]))
		checkEncode(t, "\x00"+all[i:i+1], bitByBit("\x00"+all[i:i+1]))
		checkEncode(t, "\xff\xff"+all[i:i+1], bitByBit("\xff\xff"+all[i:i+1]))
	}
	checkEncode(t, all, bitByBit(all))
}

func TestE1EncodeEachLength(t *testing.T) {
	for n := range 300 {
		data := mixed(n)
		checkEncode(t, data, bitByBit(data))
	}
	for _, n := range []int{65535, 65536, 65537, 1 << 20} {
		if data := mixed(n); base.Encode(data) != library.EncodeToString([]byte(data)) {
			t.Errorf("Encode of %d mixed bytes is not what the library tells", n)
		}
	}
}

// The group four times over, so that each sign stands at each place of four.
func TestE1EncodeEachSign(t *testing.T) {
	for group := range 64 {
		bits := group<<18 | group<<12 | group<<6 | group
		data := string([]byte{byte(bits >> 16), byte(bits >> 8), byte(bits)})
		text := strings.Repeat(signs[group:group+1], 4)
		checkEncode(t, data, text)
		checkDecode(t, text, data)
	}
	text := base.Encode(allBytes())
	for _, sign := range signs {
		if !strings.ContainsRune(text, sign) {
			t.Errorf("sign %q is not in the text of all bytes", sign)
		}
	}
}

func TestE2DecodeWhatEncodeTells(t *testing.T) {
	for _, c := range written {
		checkDecode(t, c.text, c.data)
	}
	all := allBytes()
	for i := range len(all) {
		checkDecode(t, base.Encode(all[i:i+1]), all[i:i+1])
		checkDecode(t, base.Encode(all[i:]), all[i:])
	}
	for n := range 300 {
		checkDecode(t, base.Encode(mixed(n)), mixed(n))
	}
	for _, n := range []int{65535, 65536, 65537, 1 << 20} {
		data := mixed(n)
		if got, e, place := base.Decode(base.Encode(data)); got != data || e != api.OK || place != 0 {
			t.Errorf("Decode of the text of %d mixed bytes = %d bytes, %d, %d", n, len(got), e, place)
		}
	}
}

func TestE2DecodeNoSign(t *testing.T) {
	all := allBytes()
	for i := range len(all) {
		wrong := all[i : i+1]
		if strings.Contains(signs, wrong) {
			continue
		}
		checkWrong(t, wrong, 0)
		for n := range 10 {
			text := strings.Repeat("A", n)
			for at := range n + 1 {
				checkWrong(t, text[:at]+wrong+text[at:], at)
			}
		}
	}
}

func TestE2DecodeFirstOfSeveral(t *testing.T) {
	for _, c := range []struct {
		text  string
		place int
	}{
		{"=", 0},
		{"==", 0},
		{"Zg==", 2},
		{"Zm8=", 3},
		{"Zh==", 2},
		{"Zm9v=", 4},
		{"Zm9v\n", 4},
		{"Zm\n9v", 2},
		{"\nZm9v", 0},
		{"Zm9v\r\n", 4},
		{" Zm9v", 0},
		{"Zm9v ", 4},
		{"Z+", 1},
		{"Z/+ ", 1},
		{"A=A=A", 1},
		{"AAAA/", 4},
		{"AAA\x00\x00", 3},
		{"é", 0},
		{"Aé", 1},
		{"__5=", 3},
		{"__\xff5", 2},
	} {
		checkWrong(t, c.text, c.place)
	}
	checkWrong(t, strings.Repeat("A", 65536)+".", 65536)
}

func TestE2DecodeWrongNumber(t *testing.T) {
	for n := 1; n < 400; n += 4 {
		for _, sign := range []string{"A", "Q", "_", "-", "9"} {
			checkWrong(t, strings.Repeat(sign, n), n)
		}
	}
	for group := range 64 {
		checkWrong(t, signs[group:group+1], 1)
		checkWrong(t, "Zm9v"+signs[group:group+1], 5)
	}
	checkWrong(t, strings.Repeat("A", 65537), 65537)
}

func TestE2DecodeBitsLeft(t *testing.T) {
	for _, ahead := range []string{"", "Zm9v", "Zm9vYmFy", strings.Repeat("_", 400)} {
		for group := range 64 {
			checkLast(t, ahead+"_", group, 16)
			checkLast(t, ahead+"A", group, 16)
			checkLast(t, ahead+"-_", group, 4)
			checkLast(t, ahead+"AA", group, 4)
		}
	}
}

// checkLast holds a text whose last group must be a multiple of step against E2.
func checkLast(t *testing.T, ahead string, group, step int) {
	t.Helper()
	text := ahead + signs[group:group+1]
	if group%step != 0 {
		checkWrong(t, text, len(ahead))
		return
	}
	data, err := library.DecodeString(text)
	if err != nil {
		t.Fatal(err)
	}
	checkDecode(t, text, string(data))
}

// Each text of up to two bytes, and each of three signs, is either the text of the bytes that it gives or of none.
func TestE2EncodeOfDecode(t *testing.T) {
	all := allBytes()
	checkBack(t, "")
	for i := range len(all) {
		checkBack(t, all[i:i+1])
		for j := range len(all) {
			checkBack(t, all[i:i+1]+all[j:j+1])
		}
	}
	for i := range 1 << 18 {
		checkBack(t, string([]byte{signs[i>>12], signs[i>>6&63], signs[i&63]}))
	}
}

func checkBack(t *testing.T, text string) {
	t.Helper()
	data, e, place := base.Decode(text)
	switch {
	case e == api.OK && base.Encode(data) != text:
		t.Errorf("Encode(Decode(%q)) = %q", text, base.Encode(data))
	case e == api.OK && place != 0:
		t.Errorf("Decode(%q) is OK, and tells the place %d", text, place)
	case e != api.OK && (e != api.ErrText || data != ""):
		t.Errorf("Decode(%q) = %q, %d, %d", text, data, e, place)
	}
	_, err := library.DecodeString(text)
	if good := err == nil && !strings.ContainsAny(text, "\r\n"); good != (e == api.OK) {
		t.Errorf("Decode(%q) tells %d, and the library %v", text, e, err)
	}
}
