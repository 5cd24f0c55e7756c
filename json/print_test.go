package json_test

import (
	"fmt"
	"slices"
	"strings"
	"testing"
	"unicode/utf16"

	"notary/api"
	"notary/json"
)

func TestJ2Example(t *testing.T) {
	checkPrint(t, " {\"b\": [1, -0], \"a\": \"\\u0061\\/\"} ", `{"a":"a/","b":[1,0]}`)
}

func TestJ2EveryKind(t *testing.T) {
	for _, form := range []string{"null", "true", "false", "0", "7", "-7", "9007199254740991", "-9007199254740991", `""`, `"a b"`, "[]", "{}", "[null,[true],{}]", `{"":{"a":[]}}`} {
		checkPrint(t, form, form)
		checkPrint(t, "["+form+"]", "["+form+"]")
		checkPrint(t, ` { "k" : `+form+` } `, `{"k":`+form+`}`)
	}
	checkPrint(t, "-0", "0")
	checkPrint(t, "[ -0 , -10 ]", "[0,-10]")
}

// The order of an array stays.
func TestJ2ArrayOrder(t *testing.T) {
	checkPrint(t, `["b", "a", 2, 1, {"b":1,"a":2}]`, `["b","a",2,1,{"a":2,"b":1}]`)
}

func TestJ2Strings(t *testing.T) {
	short := map[int]string{8: `\b`, 9: `\t`, 10: `\n`, 12: `\f`, 13: `\r`, '"': `\"`, '\\': `\\`}
	for b := range 256 {
		want := string(rune(b))
		if short[b] != "" {
			want = short[b]
		} else if b < 32 {
			want = fmt.Sprintf(`\u%04x`, b)
		}
		checkPrint(t, fmt.Sprintf(`"\u%04X"`, b), `"`+want+`"`)
		checkPrint(t, fmt.Sprintf(`{"x\u%04X":"\u%04XX"}`, b, b), `{"x`+want+`":"`+want+`X"}`)
	}
	checkPrint(t, `"\/ / \u002f \u007f `+"\x7f"+` \u2028 \ufeff \ud83d\ude00 <>&'"`, "\"/ / / \x7f \x7f \u2028 \ufeff 😀 <>&'\"")
	checkPrint(t, `"\u001F\u001A\u000B"`, `"\u001f\u001a\u000b"`)
}

// checkOrder holds Print to an order of names, however they stand in the text.
func checkOrder(t *testing.T, names ...string) {
	t.Helper()
	var members []string
	for _, name := range names {
		members = append(members, `"`+name+`":[]`)
	}
	want := "{" + strings.Join(members, ",") + "}"
	for i := range members {
		turned := append(slices.Clone(members[i:]), members[:i]...)
		checkPrint(t, "{"+strings.Join(turned, ",")+"}", want)
		slices.Reverse(turned)
		checkPrint(t, "{"+strings.Join(turned, " , ")+"}", want)
	}
}

func TestJ2Order(t *testing.T) {
	checkOrder(t, "", "0", "1", "10", "2", "A", "B", "Z", "a", "aa", "aaa", "ab", "b", "é", "€")
	checkOrder(t, `\u0000`, `\u0000\u0000`, `\u0001`, `\t`, `\n`, `\u001f`, " ", "!", `\"`, "/", "[", `\\`, "]", "\x7f", "\u0080")
	checkOrder(t, "\ud7ff", "\U00010000", "\U00010001", "\U000103ff", "\U00010400", "😀", "\U0010fc00", "\U0010ffff", "\ue000", "\uf000", "\ufffd", "\uffff")
	checkOrder(t, "a", "a\ud7ff", "a😀", "a😀\x7f", "a😀😀", "a😀\ue000", "a😁", "a\ue000", "a\uffff", "b")
	checkOrder(t, "\U00010000\uffff", "\U00010001", "\ue000", "\ue000\U00010000", "\ue000\ue000", "\ue001")
}

func TestJ2OrderByTheLibrary(t *testing.T) {
	runes := []rune{0, 'a', 'b', 0xE9, 0x7FF, 0x800, 0xD7FF, 0xE000, 0xFFFF, 0x10000, 0x103FF, 0x1F600, 0x10FFFF}
	for bit := range 20 {
		runes = append(runes, 0x10000+1<<bit)
	}
	names := []string{""}
	for _, a := range runes {
		names = append(names, string(a))
		for _, b := range runes {
			names = append(names, string([]rune{a, b}))
		}
	}
	slices.Reverse(names)
	text := "{"
	for i, name := range names {
		text += fmt.Sprintf(`"%s":%d,`, strings.ReplaceAll(name, "\x00", `\u0000`), i)
	}
	form, e, _ := json.Print(strings.TrimSuffix(text, ",") + "}")
	nodes, _, _ := json.Parse(form)
	if e != api.OK || len(nodes) != len(names)+1 {
		t.Fatalf("Print tells %d, and %d nodes", e, len(nodes))
	}
	sorted := slices.Clone(names)
	slices.SortFunc(sorted, func(a, b string) int {
		return slices.Compare(utf16.Encode([]rune(a)), utf16.Encode([]rune(b)))
	})
	for i, kid := range nodes[0].Kids {
		if nodes[kid].Key != sorted[i] || names[nodes[kid].Num] != sorted[i] {
			t.Errorf("member %d is %q: %d, want %q", i, nodes[kid].Key, nodes[kid].Num, sorted[i])
		}
	}
}

// Each object is in order by itself, and its members keep what belongs to them.
func TestJ2OrderWithin(t *testing.T) {
	checkPrint(t, `{"b":{"d":1,"c":{"f":[{"h":2,"g":3}],"e":4}},"a":{"z":5,"y":6}}`, `{"a":{"y":6,"z":5},"b":{"c":{"e":4,"f":[{"g":3,"h":2}]},"d":1}}`)
}

func TestJ2ManyMembers(t *testing.T) {
	var members []string
	for i := range 7000 {
		members = append(members, fmt.Sprintf(`"%d":0`, i*4321%7000))
	}
	text := "{" + strings.Join(members, ",") + "}"
	slices.SortFunc(members, func(a, b string) int {
		return strings.Compare(a[1:strings.Index(a, ":")-1], b[1:strings.Index(b, ":")-1])
	})
	checkPrint(t, text, "{"+strings.Join(members, ",")+"}")
}

func TestJ2Long(t *testing.T) {
	checkPrint(t, long(maxText), long(maxText))
	zeros := `"` + strings.Repeat(`\u0000`, (maxText-2)/6) + `"`
	checkPrint(t, zeros, zeros)
	deep := nested("[{", maxDepth)
	checkPrint(t, strings.Repeat(" ", maxText-len(deep))+deep, deep)
}

// Quote tells what Print tells of a string.
func TestJ2Quote(t *testing.T) {
	for n := range 0x250 {
		for _, s := range []string{"", string(rune(n)), "a" + string(rune(n)) + "\U0001F600", string(rune(n)) + "\"\\"} {
			quoted := json.Quote(s)
			checkPrint(t, quoted, quoted)
			if s != "" {
				checkNodes(t, quoted, api.Node{Kind: 3, Text: s})
			}
		}
	}
	if got := json.Quote(""); got != `""` {
		t.Errorf("Quote of nothing = %q", got)
	}
}

// Form tells of each node what Print tells of its text alone.
func TestJ2Form(t *testing.T) {
	texts := []string{"null", ` { "d" : [ true , -0 ] , "c" : { } } `, `"\u0061\/"`, "[ ]", "-7", "false", `{"b":{"z":[[1, 2]],"y":"\n"},"a":null}`}
	whole := "[" + strings.Join(texts, ",") + "]"
	nodes, _, _ := json.Parse(whole)
	for i, kid := range nodes[0].Kids {
		want, _, _ := json.Print(texts[i])
		if got := json.Form(nodes, kid); got != want {
			t.Errorf("Form of node %d = %q, want %q", kid, got, want)
		}
	}
	if want, _, _ := json.Print(whole); json.Form(nodes, 0) != want {
		t.Errorf("Form of node 0 = %q, want %q", json.Form(nodes, 0), want)
	}
}
