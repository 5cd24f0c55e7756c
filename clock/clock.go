// Package clock counts the seconds of an issuer, and of a door: each embeds a clock of its own.
package clock

import "notary/api"

const maxInt = 9007199254740991

// Clock counts whole seconds, from 0 on.
type Clock struct{ now int }

// Now tells where the clock stands.
func (c *Clock) Now() int { return c.now }

// Tick lets the clock go on (I2, R2).
func (c *Clock) Tick(n int) (int, api.Errno) {
	if n < 0 {
		return 0, api.ErrRange
	}
	// n is held against what is left: added first, it might run over.
	c.now += min(n, maxInt-c.now)
	return c.now, api.OK
}
