package json

import "notary/api"

// fault is what is thrown: what is wrong with a text, and where.
type fault struct {
	err api.Errno
	at  int
}

func throw(err api.Errno, at int) { panic(fault{err, at}) }

// catch tells what read threw, or a fault that is OK. Nothing but a fault is ever thrown on purpose: another panic is not taken for one.
func catch(read func()) (wrong fault) {
	defer func() {
		if thrown := recover(); thrown != nil {
			wrong = thrown.(fault)
		}
	}()
	read()
	return fault{}
}

// cursor is a text, and the place up to which it has been read.
type cursor struct {
	text string
	at   int
}

// peek tells the next byte, or 0 at the end: a byte 0 is right nowhere, so whoever looks for a right one stops there, and the place is the text's length.
func (c *cursor) peek() byte {
	if c.at == len(c.text) {
		return 0
	}
	return c.text[c.at]
}

// take goes over the next byte, if it is b.
func (c *cursor) take(b byte) bool {
	if c.peek() != b {
		return false
	}
	c.at++
	return true
}

// need goes over b, which alone is right here.
func (c *cursor) need(b byte) {
	if !c.take(b) {
		c.fail()
	}
}

// takeAll goes over all bytes of a kind that stand here, and tells them.
func (c *cursor) takeAll(kind func(byte) bool) string {
	start := c.at
	for kind(c.peek()) {
		c.at++
	}
	return c.text[start:c.at]
}

func (c *cursor) skipBlanks() { c.takeAll(isBlank) }

// fail throws that the next byte is wrong, or that the text ends too early.
func (c *cursor) fail() { throw(api.ErrText, c.at) }

func isBlank(b byte) bool { return b == ' ' || b == '\t' || b == '\n' || b == '\r' }

func isDigit(b byte) bool { return '0' <= b && b <= '9' }

func isSmall(b byte) bool { return 'a' <= b && b <= 'z' }
