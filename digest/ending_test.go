package digest

import (
	"strings"
	"testing"
)

// How many bits there are is asked of the ending alone, as texts so long would take too long to sum.
func TestEndingOfLongTexts(t *testing.T) {
	narrow, wide := plan256(), plan512()
	for _, c := range []struct {
		size int
		bits string // the counter's last 8 bytes
	}{
		{1 << 21, "\x00\x00\x00\x00\x01\x00\x00\x00"},
		{1<<29 - 1<<7, "\x00\x00\x00\x00\xff\xff\xfc\x00"},
		{1 << 29, "\x00\x00\x00\x01\x00\x00\x00\x00"},
		{1<<31 - 1<<7, "\x00\x00\x00\x03\xff\xff\xfc\x00"},
	} {
		want := "\x80" + strings.Repeat("\x00", 55) + c.bits
		if got := narrow.ending("", c.size); got != want {
			t.Errorf("of 256 the ending of %d bytes is %x, want %x", c.size, got, want)
		}
		want = "\x80" + strings.Repeat("\x00", 119) + c.bits
		if got := wide.ending("", c.size); got != want {
			t.Errorf("of 512 the ending of %d bytes is %x, want %x", c.size, got, want)
		}
	}
}
