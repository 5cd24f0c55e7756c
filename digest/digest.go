// Package digest tells sums: see doc/01-digest.md.
package digest

const (
	innerMask = 0x36
	outerMask = 0x5c
)

// Size tells how long a sum is (G1).
func Size(alg int) int {
	switch alg {
	case 256, 384, 512:
		return alg / 8
	}
	return 0
}

// Sum tells a text's sum (G2 to G4).
func Sum(alg int, data string) string {
	switch alg {
	case 256:
		p := plan256()
		return p.sum(data)
	case 384:
		p := plan384()
		return p.sum(data)[:Size(384)]
	case 512:
		p := plan512()
		return p.sum(data)
	}
	return ""
}

// Mac tells a text's sum with a key (G5).
func Mac(alg int, key string, data string) string {
	if Size(alg) == 0 {
		return ""
	}
	size := keySize(alg)
	if len(key) > size {
		key = Sum(alg, key)
	}
	inner := Sum(alg, mask(key, size, innerMask)+data)
	return Sum(alg, mask(key, size, outerMask)+inner)
}

// Same tells whether two texts are the same (G6).
func Same(a string, b string) bool {
	if len(a) != len(b) {
		return false
	}
	// All bytes are looked at, so that the time it takes does not tell where two macs part.
	var apart byte
	for i := range len(a) {
		apart |= a[i] ^ b[i]
	}
	return apart == 0
}

// keySize is the document's B: one block of the alg's sum.
func keySize(alg int) int {
	if alg == 256 {
		return 64
	}
	return 128
}

// mask fills key up to size bytes, each of them ^ with.
func mask(key string, size int, with byte) string {
	out := make([]byte, size)
	copy(out, key)
	for i := range out {
		out[i] ^= with
	}
	return string(out)
}
