package digest

// blockWords words are taken at a time, of either width.
const blockWords = 16

// maxRounds is the greater of the two numbers of rounds: an array has one length for both widths.
const maxRounds = 80

// word is what a sum is reckoned in: Go's wrap-round is the document's modulo.
type word interface {
	uint32 | uint64
}

// eight are the words that go from block to block; an array, so that a round works on a copy.
type eight[W word] [8]W

// sum tells all eight words of data's sum, as bytes.
func (p *plan[W]) sum(data string) string {
	size := p.blockSize()
	whole := len(data) - len(data)%size
	h := p.blocks(p.start, data[:whole])
	h = p.blocks(h, p.ending(data[whole:], len(data)))
	return p.write(h)
}

func (p *plan[W]) blockSize() int {
	return blockWords * p.width
}

// blocks takes text, a whole number of blocks, into h.
func (p *plan[W]) blocks(h eight[W], text string) eight[W] {
	size := p.blockSize()
	for at := 0; at < len(text); at += size {
		h = p.block(h, text[at:at+size])
	}
	return h
}

func (p *plan[W]) block(h eight[W], text string) eight[W] {
	w := p.spread(text)
	v := h
	for i, k := range p.keys {
		v = p.round(v, k+w[i])
	}
	for i := range h {
		h[i] += v[i]
	}
	return h
}

// spread tells the words w of a block, one for each round.
func (p *plan[W]) spread(text string) [maxRounds]W {
	var w [maxRounds]W
	for i := range blockWords {
		w[i] = p.read(text[i*p.width : (i+1)*p.width])
	}
	for i := blockWords; i < len(p.keys); i++ {
		far := p.turnAndShift(w[i-15], p.mixFar)
		near := p.turnAndShift(w[i-2], p.mixNear)
		w[i] = w[i-16] + far + w[i-7] + near
	}
	return w
}

// round goes one round; in is the round's key and its word together.
func (p *plan[W]) round(v eight[W], in W) eight[W] {
	a, b, c, d := v[0], v[1], v[2], v[3]
	e, f, g, h := v[4], v[5], v[6], v[7]
	t := h + p.turnThrice(e, p.mixE) + ((e & f) ^ (^e & g)) + in
	u := p.turnThrice(a, p.mixA) + ((a & b) ^ (a & c) ^ (b & c))
	return eight[W]{t + u, a, b, c, d + t, e, f, g}
}

func (p *plan[W]) turnThrice(x W, by [3]int) W {
	return p.turn(x, by[0]) ^ p.turn(x, by[1]) ^ p.turn(x, by[2])
}

func (p *plan[W]) turnAndShift(x W, by [3]int) W {
	return p.turn(x, by[0]) ^ p.turn(x, by[1]) ^ x>>by[2]
}

// turn is the document's rotr.
func (p *plan[W]) turn(x W, by int) W {
	return x>>by | x<<(8*p.width-by)
}

// ending tells what comes behind the whole blocks of a text of size bytes: the rest of it, and what fills it up.
func (p *plan[W]) ending(rest string, size int) string {
	counter := 2 * p.width
	out := append([]byte(rest), 0x80)
	for len(out)%p.blockSize() != p.blockSize()-counter {
		out = append(out, 0)
	}
	// 64 bits are enough for any text's number of bits; shifts beyond them tell 0.
	bits := uint64(size) * 8
	for i := counter - 1; i >= 0; i-- {
		out = append(out, byte(bits>>(8*i)))
	}
	return string(out)
}

// read tells the word that the bytes of text are, the highest one first.
func (p *plan[W]) read(text string) W {
	var x W
	for i := range len(text) {
		x = x<<8 | W(text[i])
	}
	return x
}

func (p *plan[W]) write(h eight[W]) string {
	var out []byte
	for _, x := range h {
		for i := p.width - 1; i >= 0; i-- {
			out = append(out, byte(x>>(8*i)))
		}
	}
	return string(out)
}
