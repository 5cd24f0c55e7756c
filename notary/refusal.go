package notary

import (
	"errors"
	"strconv"

	"notary/api"
)

// refusal is what was refused, by its number.
type refusal struct{ number api.Errno }

func (r refusal) Error() string { return "error " + strconv.Itoa(int(r.number)) }

// placed is a refusal that has a place in a text.
type placed struct {
	refused refusal
	at      int
}

func (p placed) Error() string { return p.refused.Error() + " at " + strconv.Itoa(p.at) }

func (p placed) Unwrap() error { return p.refused }

// refuse makes an error of a number, but none of OK.
func refuse(number api.Errno) error {
	if number == api.OK {
		return nil
	}
	return refusal{number}
}

// told tells the number of what was refused, and its place, if it has one; OK where nothing was.
func told(err error) (api.Errno, int) {
	var r refusal
	var p placed
	errors.As(err, &r)
	errors.As(err, &p)
	return r.number, p.at
}
