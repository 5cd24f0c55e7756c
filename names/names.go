// Package names knows what may name somebody who signs, or for whom: an issuer and a door are held to the same.
package names

import "unicode/utf8"

const maxName = 100

// Right tells whether a text is a name (I1, R1).
func Right(s string) bool { return s != "" && len(s) <= maxName && utf8.ValidString(s) }
