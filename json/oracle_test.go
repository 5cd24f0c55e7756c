package json_test

import (
	library "encoding/json"
	"fmt"
	"math/rand"
	"strings"
	"testing"
	"unicode/utf16"

	"notary/api"
	"notary/json"
)

// closing tells what ends the arrays and objects that are open behind a text.
func closing(text string) string {
	out, quoted := "", false
	for i := 0; i < len(text); i++ {
		switch b := text[i]; {
		case quoted && b == '\\':
			i++
		case b == '"':
			quoted = !quoted
		case quoted:
		case b == '[':
			out = "]" + out
		case b == '{':
			out = "}" + out
		case (b == ']' || b == '}') && out != "":
			out = out[1:]
		}
	}
	return out
}

// begins tells whether some text begins with these bytes: the library is asked of what may stand behind them.
func begins(text string) bool {
	for _, next := range []string{"", "1", `"`, `"":1`, `":1`, ":1", `n"`, `n":1`} {
		if whole := text + next; library.Valid([]byte(whole + closing(whole))) {
			return true
		}
	}
	return false
}

// checkEvery holds Parse to every text of these signs with at most size bytes that begins so: the place is the first byte with which none begins.
func checkEvery(t *testing.T, text, signs string, size int) {
	if library.Valid([]byte(text)) {
		if _, e, at := json.Parse(text); e != api.OK || at != 0 {
			t.Errorf("Parse(%q) tells %d, %d, want 0, 0", text, e, at)
		}
	} else {
		checkWrong(t, text, api.ErrText, len(text))
	}
	if len(text) == size {
		return
	}
	for i := range len(signs) {
		if longer := text + signs[i:i+1]; begins(longer) {
			checkEvery(t, longer, signs, size)
		} else {
			checkWrong(t, longer, api.ErrText, len(text))
			checkWrong(t, longer+`"]x`, api.ErrText, len(text))
		}
	}
}

// The signs leave out what has a place of its own: zeros, words, halves.
func TestJ1EveryShortText(t *testing.T) {
	checkEvery(t, "", "{}[]\":,1-\\n x", 5)
	checkEvery(t, "", "{}[],1- ", 7)
	checkEvery(t, "[{", "{}[]\":,1", 7)
	checkEvery(t, "[[],{\"a\"", "{}[]:,1 ", 14)
	checkEvery(t, "{\"a\":{\"b\":1", "{}[],1\" ", 16)
	checkEvery(t, "{\"a\":", "{}[],1- ", 12)
}

// maker writes trees at random, beside the nodes that they must have.
type maker struct {
	*rand.Rand
	text  strings.Builder
	nodes []api.Node
}

func (m *maker) blanks() {
	for m.Intn(4) == 0 {
		m.text.WriteByte(" \t\r\n"[m.Intn(4)])
	}
}

// str writes a string, each rune as one of the ways that it may be written, and tells it.
func (m *maker) str() string {
	runes := []rune{'a', 'b', 'z', '"', '\\', '/', '\n', '\t', 0, 31, 127, 0xE9, 0x7FF, 0x800, 0xD7FF, 0xE000, 0xFFFD, 0xFFFF, 0x10000, 0x1F600, 0x10FFFF}
	var out []rune
	m.text.WriteByte('"')
	for range m.Intn(5) {
		n := runes[m.Intn(len(runes))]
		out = append(out, n)
		short := strings.IndexRune("\"\\/\n\t", n)
		switch {
		case short >= 0 && n != '/' && m.Intn(2) == 0 || n == '/' && m.Intn(3) == 0:
			m.text.WriteString(`\` + `"\/nt`[short:short+1])
		case n < 32 || n == '"' || n == '\\' || m.Intn(3) == 0:
			for _, unit := range utf16.Encode([]rune{n}) {
				fmt.Fprintf(&m.text, []string{`\u%04x`, `\u%04X`}[m.Intn(2)], unit)
			}
		default:
			m.text.WriteRune(n)
		}
	}
	m.text.WriteByte('"')
	return string(out)
}

// value writes a value, and tells its number.
func (m *maker) value(key string, deep int) int {
	n := len(m.nodes)
	m.nodes = append(m.nodes, api.Node{Key: key, At: m.text.Len()})
	kinds := 6
	if deep == maxDepth {
		kinds = 4
	}
	kind := m.Intn(kinds)
	m.nodes[n].Kind = kind
	switch kind {
	case 0:
		m.text.WriteString("null")
	case 1:
		m.nodes[n].Num = m.Intn(2)
		fmt.Fprint(&m.text, m.nodes[n].Num == 1)
	case 2:
		m.nodes[n].Num = m.Intn(1<<m.Intn(54)) * (m.Intn(3) - 1)
		fmt.Fprint(&m.text, m.nodes[n].Num)
	case 3:
		m.nodes[n].Text = m.str()
	default:
		m.list(n, deep+1)
	}
	return n
}

func (m *maker) list(n, deep int) {
	signs := map[int]string{4: "[]", 5: "{}"}[m.nodes[n].Kind]
	m.text.WriteByte(signs[0])
	m.blanks()
	names := map[string]bool{}
	for i := range m.Intn(4) {
		if i > 0 {
			m.text.WriteByte(',')
			m.blanks()
		}
		name := ""
		if m.nodes[n].Kind == 5 {
			name = m.name(names)
		}
		kid := m.value(name, deep)
		m.nodes[n].Kids = append(m.nodes[n].Kids, kid)
		m.blanks()
	}
	m.text.WriteByte(signs[1])
}

// name writes a name that is none of those that have been, and a colon.
func (m *maker) name(names map[string]bool) string {
	ahead := m.text.String()
	for {
		name := m.str()
		if !names[name] {
			names[name] = true
			m.blanks()
			m.text.WriteByte(':')
			m.blanks()
			return name
		}
		m.text.Reset()
		m.text.WriteString(ahead)
	}
}

func TestJ1J2TreesAtRandom(t *testing.T) {
	for seed := range int64(3000) {
		m := &maker{Rand: rand.New(rand.NewSource(seed))}
		m.blanks()
		m.value("", 0)
		m.blanks()
		text := m.text.String()
		if len(text) > maxText {
			continue
		}
		checkNodes(t, text, m.nodes...)
		form, e, at := json.Print(text)
		if e != api.OK || at != 0 {
			t.Fatalf("Print(%q) tells %d, %d", text, e, at)
		}
		checkForm(t, text, form)
	}
}

// checkForm holds a form to the library's reading of the text, and to itself.
func checkForm(t *testing.T, text, form string) {
	t.Helper()
	var a, b any
	if library.Unmarshal([]byte(text), &a) != nil || library.Unmarshal([]byte(form), &b) != nil || fmt.Sprintf("%#v", a) != fmt.Sprintf("%#v", b) {
		t.Errorf("Print(%q) = %q", text, form)
	}
	var short strings.Builder
	for i, part := range strings.Split(form, `"`) {
		if i%2 == 0 {
			short.WriteString(part)
		}
	}
	if !strings.Contains(form, `\`) && strings.ContainsAny(short.String(), " \t\r\n") {
		t.Errorf("Print(%q) = %q has blanks", text, form)
	}
	checkPrint(t, form, form)
}
