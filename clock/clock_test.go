package clock_test

import (
	"math"
	"testing"

	"notary/api"
	"notary/clock"
)

const maxInt = 9007199254740991

func checkTick(t *testing.T, c *clock.Clock, n, want int) {
	t.Helper()
	if got, e := c.Tick(n); got != want || e != api.OK {
		t.Errorf("Tick(%d) = %d, %d, want %d, 0", n, got, e, want)
	}
	checkNow(t, c, want)
}

func checkNoTick(t *testing.T, c *clock.Clock, n int) {
	t.Helper()
	was := c.Now()
	if got, e := c.Tick(n); got != 0 || e != api.ErrRange {
		t.Errorf("Tick(%d) = %d, %d, want 0, %d", n, got, e, api.ErrRange)
	}
	checkNow(t, c, was)
}

func checkNow(t *testing.T, c *clock.Clock, want int) {
	t.Helper()
	if got := c.Now(); got != want {
		t.Errorf("Now() = %d, want %d", got, want)
	}
}

func TestI2GoesOn(t *testing.T) {
	c := &clock.Clock{}
	checkNow(t, c, 0)
	checkTick(t, c, 0, 0)
	checkTick(t, c, 1, 1)
	checkTick(t, c, 5, 6)
	checkTick(t, c, 0, 6)
	checkTick(t, c, math.MaxInt32, 6+math.MaxInt32)
}

func TestI2BelowZero(t *testing.T) {
	c := &clock.Clock{}
	for _, n := range []int{-1, -5, -maxInt, math.MinInt, math.MinInt + 1} {
		checkNoTick(t, c, n)
	}
	checkTick(t, c, 7, 7)
	for _, n := range []int{-1, -7, -8, math.MinInt} {
		checkNoTick(t, c, n)
	}
	checkTick(t, c, 1, 8)
}

func TestI2End(t *testing.T) {
	for _, n := range []int{maxInt, maxInt + 1, math.MaxInt - 1, math.MaxInt} {
		for _, ahead := range []int{0, 1, 1000, maxInt - 1, maxInt} {
			c := &clock.Clock{}
			checkTick(t, c, ahead, ahead)
			checkTick(t, c, n, maxInt)
			checkTick(t, c, 0, maxInt)
			checkTick(t, c, 1, maxInt)
			checkTick(t, c, n, maxInt)
			checkNoTick(t, c, -1)
		}
	}
	c := &clock.Clock{}
	checkTick(t, c, maxInt-1, maxInt-1)
	checkTick(t, c, 1, maxInt)
	c = &clock.Clock{}
	checkTick(t, c, maxInt-1, maxInt-1)
	checkTick(t, c, 2, maxInt)
}
