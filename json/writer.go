package json

import (
	"slices"
	"strconv"
	"strings"

	"notary/api"
)

// writer writes nodes in their one form.
type writer struct {
	nodes []api.Node
	out   []byte
}

// Quote tells the one form of a string; other packages build texts by it. The string is right UTF-8.
func Quote(s string) string {
	w := &writer{}
	w.writeString(s)
	return string(w.out)
}

func (w *writer) writeNode(n int) {
	node := w.nodes[n]
	switch node.Kind {
	case KindNull:
		w.out = append(w.out, "null"...)
	case KindTruth:
		w.out = strconv.AppendBool(w.out, node.Num == 1)
	case KindInteger:
		w.out = strconv.AppendInt(w.out, int64(node.Num), 10)
	case KindString:
		w.writeString(node.Text)
	case KindArray:
		w.writeList('[', node.Kids, w.writeNode, ']')
	case KindObject:
		w.writeList('{', w.byName(node.Kids), w.writeMember, '}')
	}
}

func (w *writer) writeMember(n int) {
	w.writeString(w.nodes[n].Key)
	w.out = append(w.out, ':')
	w.writeNode(n)
}

func (w *writer) writeList(begin byte, kids []int, writeKid func(int), end byte) {
	w.out = append(w.out, begin)
	for i, kid := range kids {
		if i > 0 {
			w.out = append(w.out, ',')
		}
		writeKid(kid)
	}
	w.out = append(w.out, end)
}

func (w *writer) writeString(s string) {
	w.out = append(w.out, '"')
	for i := range len(s) {
		w.writeByte(s[i])
	}
	w.out = append(w.out, '"')
}

func (w *writer) writeByte(b byte) {
	if i := strings.IndexByte(shortBytes, b); i >= 0 {
		w.out = append(w.out, '\\', shortSigns[i])
	} else if b < ' ' {
		w.out = append(w.out, '\\', 'u', '0', '0', hexSigns[b>>4], hexSigns[b&15])
	} else {
		w.out = append(w.out, b)
	}
}

// member is a kid beside what its place hangs on.
type member struct {
	units []uint16
	kid   int
}

// byName tells an object's kids, rising by their names.
func (w *writer) byName(kids []int) []int {
	var members []member
	for _, kid := range kids {
		members = append(members, member{units(w.nodes[kid].Key), kid})
	}
	slices.SortFunc(members, func(a, b member) int { return slices.Compare(a.units, b.units) })
	var out []int
	for _, m := range members {
		out = append(out, m.kid)
	}
	return out
}

// units tells the numbers of 16 bits that write a name in UTF-16.
func units(name string) []uint16 {
	var out []uint16
	for _, n := range name {
		if n < oneUnit {
			out = append(out, uint16(n))
		} else {
			n -= oneUnit
			out = append(out, uint16(firstHalves+n>>10), uint16(secondHalves+n&0x3FF))
		}
	}
	return out
}
