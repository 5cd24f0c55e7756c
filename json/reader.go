package json

import (
	"strconv"

	"notary/api"
)

// reader reads a tree at its cursor; what is wrong it throws.
type reader struct {
	cursor
	nodes []api.Node
	deep  int // how many arrays and objects are open
}

func (r *reader) readText() {
	r.skipBlanks()
	r.readValue("")
	r.skipBlanks()
	if r.at < len(r.text) {
		r.fail()
	}
}

// readValue tells the number of the value's node. The node is laid ahead of what stands within the value, as nodes are numbered as they begin.
func (r *reader) readValue(key string) int {
	n := len(r.nodes)
	r.nodes = append(r.nodes, api.Node{Key: key, At: r.at})
	switch r.peek() {
	case '{':
		r.readObject(n)
	case '[':
		r.readArray(n)
	default:
		r.readPlain(&r.nodes[n])
	}
	return n
}

// readPlain reads a value within which no other one stands.
func (r *reader) readPlain(node *api.Node) {
	switch b := r.peek(); {
	case b == '"':
		node.Kind, node.Text = KindString, r.readString()
	case b == '-' || isDigit(b):
		node.Kind, node.Num = KindInteger, r.readInteger()
	case b == 't' || b == 'f' || b == 'n':
		node.Kind, node.Num = r.readWord()
	default:
		r.fail()
	}
}

func (r *reader) readArray(n int) {
	r.nodes[n].Kind = KindArray
	r.readList(']', func() { r.readKid(n, "") })
}

func (r *reader) readObject(n int) {
	r.nodes[n].Kind = KindObject
	names := map[string]struct{}{}
	r.readList('}', func() {
		name := r.readName(names)
		r.skipBlanks()
		r.need(':')
		r.skipBlanks()
		r.readKid(n, name)
	})
}

// readKid reads the value first: it moves the nodes when it adds its own.
func (r *reader) readKid(n int, key string) {
	kid := r.readValue(key)
	r.nodes[n].Kids = append(r.nodes[n].Kids, kid)
}

// readName reads a member's name, which is none of those ahead of it, and adds it to them.
func (r *reader) readName(names map[string]struct{}) string {
	start := r.at
	name := r.readString()
	if _, twice := names[name]; twice {
		throw(api.ErrTwice, start)
	}
	names[name] = struct{}{}
	return name
}

// readList reads from the bracket at the cursor to the one that ends it; readItem reads what stands between commas.
func (r *reader) readList(end byte, readItem func()) {
	if r.deep == maxDepth {
		throw(api.ErrDeep, r.at)
	}
	r.deep++
	r.at++
	r.skipBlanks()
	if !r.take(end) {
		r.readItems(end, readItem)
	}
	r.deep--
}

func (r *reader) readItems(end byte, readItem func()) {
	for {
		readItem()
		r.skipBlanks()
		if r.take(end) {
			return
		}
		r.need(',')
		r.skipBlanks()
	}
}

// readWord tells the kind and the number of null, true or false.
func (r *reader) readWord() (int, int) {
	start := r.at
	switch r.takeAll(isSmall) {
	case "null":
		return KindNull, 0
	case "false":
		return KindTruth, 0
	case "true":
		return KindTruth, 1
	}
	throw(api.ErrText, start)
	return 0, 0
}

func (r *reader) readInteger() int {
	start := r.at
	r.take('-')
	first := r.at
	digits := r.takeAll(isDigit)
	if digits == "" {
		r.fail()
	}
	if len(digits) > 1 && digits[0] == '0' {
		throw(api.ErrText, first)
	}
	n, err := strconv.ParseInt(r.text[start:r.at], 10, 64)
	if err != nil || n < -maxInt || n > maxInt {
		throw(api.ErrRange, start)
	}
	return int(n)
}
