package api_test

import (
	"testing"

	"notary/api"
)

// The numbers are written into answers, so none may move.
func TestErrorNumbers(t *testing.T) {
	for want, got := range []api.Errno{
		api.OK, api.ErrLong, api.ErrText, api.ErrRange, api.ErrTwice, api.ErrDeep, api.ErrKind,
		api.ErrNone, api.ErrMany, api.ErrAlg, api.ErrKey, api.ErrKid, api.ErrHead, api.ErrBody,
		api.ErrSign, api.ErrIss, api.ErrAud, api.ErrEarly, api.ErrLate,
	} {
		if int(got) != want {
			t.Errorf("the error %d has the number %d", want, got)
		}
	}
}
