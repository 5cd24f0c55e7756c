package json_test

import (
	"fmt"
	"strings"
	"testing"

	"notary/api"
	"notary/json"
)

func TestJ1PlainValues(t *testing.T) {
	checkNodes(t, "null", api.Node{})
	checkNodes(t, "false", api.Node{Kind: 1})
	checkNodes(t, "true", api.Node{Kind: 1, Num: 1})
	checkNodes(t, "12", api.Node{Kind: 2, Num: 12})
	checkNodes(t, `"ab"`, api.Node{Kind: 3, Text: "ab"})
	checkNodes(t, `""`, api.Node{Kind: 3})
	checkNodes(t, "[]", api.Node{Kind: 4})
	checkNodes(t, "{}", api.Node{Kind: 5})
}

func TestJ1Tree(t *testing.T) {
	checkNodes(t, `[null,[true,{}],{"k":"s","":[-7]},[],false]`,
		api.Node{Kind: 4, Kids: []int{1, 2, 5, 9, 10}},
		api.Node{At: 1},
		api.Node{Kind: 4, Kids: []int{3, 4}, At: 6},
		api.Node{Kind: 1, Num: 1, At: 7},
		api.Node{Kind: 5, At: 12},
		api.Node{Kind: 5, Kids: []int{6, 7}, At: 16},
		api.Node{Kind: 3, Key: "k", Text: "s", At: 21},
		api.Node{Kind: 4, Kids: []int{8}, At: 28},
		api.Node{Kind: 2, Num: -7, At: 29},
		api.Node{Kind: 4, At: 34},
		api.Node{Kind: 1, At: 37},
	)
}

// The members stand in the order of the text, not of their names.
func TestJ1MembersInTheirOrder(t *testing.T) {
	checkNodes(t, `{"b":1,"\u0061\n":{"b":2},"":3}`,
		api.Node{Kind: 5, Kids: []int{1, 2, 4}},
		api.Node{Kind: 2, Key: "b", Num: 1, At: 5},
		api.Node{Kind: 5, Key: "a\n", Kids: []int{3}, At: 18},
		api.Node{Kind: 2, Key: "b", Num: 2, At: 23},
		api.Node{Kind: 2, Num: 3, At: 29},
	)
}

func TestJ1Blanks(t *testing.T) {
	parts := []string{"", "{", `"a"`, ":", "[", "1", ",", `"b c"`, ",", "true", ",", "[", "]", ",", "{", "}", "]", ",", `"d"`, ":", "-5", "}", ""}
	for _, blank := range []string{" ", "\t", "\n", "\r", "\r\n \t"} {
		for i := range len(parts) - 1 {
			text := strings.Join(parts[:i+1], "") + blank + strings.Join(parts[i+1:], "")
			checkPrint(t, text, `{"a":[1,"b c",true,[],{}],"d":-5}`)
		}
		checkPrint(t, strings.Join(parts, blank), `{"a":[1,"b c",true,[],{}],"d":-5}`)
	}
	checkNodes(t, " \n[ 1\t,\r2 ] ", api.Node{Kind: 4, Kids: []int{1, 2}, At: 2}, api.Node{Kind: 2, Num: 1, At: 4}, api.Node{Kind: 2, Num: 2, At: 8})
}

func TestJ1NoBlankHere(t *testing.T) {
	checkWrong(t, "- 1", api.ErrText, 1)
	checkWrong(t, "1 2", api.ErrText, 2)
	checkWrong(t, "tr ue", api.ErrText, 0)
	checkWrong(t, "[true false]", api.ErrText, 6)
	checkWrong(t, `"\ n"`, api.ErrText, 2)
	checkWrong(t, `"\u 0041"`, api.ErrText, 3)
	checkString(t, " a  b ", " a  b ")
	for _, b := range "\t\n\r" {
		checkWrong(t, `"a`+string(b)+`b"`, api.ErrText, 2)
	}
	for _, no := range []string{"\v", "\f", "\x00", "\u0085", "\u00a0", "\ufeff", "/**/"} {
		checkWrong(t, no+"1", api.ErrText, 0)
		checkWrong(t, "1"+no, api.ErrText, 1)
		checkWrong(t, "["+no+"]", api.ErrText, 1)
	}
}

// piece is a part of a text; from its byte number whole on, what is wrong within is told at its first byte.
type piece struct {
	text  string
	whole int
}

var pieces = []piece{
	{` { `, 9}, {`"a`, 9}, {`é`, 1}, {`" : [ `, 9}, {`null`, 1}, {` , `, 9}, {`true`, 1}, {`,`, 9}, {`false`, 1}, {` , -120,0 , [ ] , { } ,"x\n\u00e9`, 99},
	{`\ud83d\ude00`, 6}, {`€`, 1}, {`\"`, 9}, {`😀`, 1}, {`" ] , "b" : {"c":"`, 99}, {`\uDBFF\uDFFF`, 6}, {`"} }`, 9},
}

// places tells the text of all pieces, and of each of its bytes the place that is told when the text goes wrong with it.
func places() (string, []int) {
	text, out := "", []int{}
	for _, p := range pieces {
		for i := range len(p.text) {
			if i >= p.whole {
				out = append(out, len(text))
			} else {
				out = append(out, len(text)+i)
			}
		}
		text += p.text
	}
	return text, out
}

func TestJ1EndsTooEarly(t *testing.T) {
	text, place := places()
	if _, e, _ := json.Parse(text); e != api.OK {
		t.Fatalf("Parse(%q) tells %d", text, e)
	}
	for i := range text {
		checkWrong(t, text[:i], api.ErrText, place[i])
	}
}

// A byte that is right nowhere takes the place of each one, and stands ahead of each one.
func TestJ1WrongByte(t *testing.T) {
	text, place := places()
	for _, wrong := range []string{"\x00", "\x01", "\x1f", "\xff", "\xc0", "\x80"} {
		for i := range len(text) {
			if text[i]&0xC0 == 0x80 && wrong == "\x80" {
				continue // it goes on
			}
			checkWrong(t, text[:i]+wrong+text[i+1:], api.ErrText, place[i])
			checkWrong(t, text[:i]+wrong+text[i:], api.ErrText, place[i])
		}
		checkWrong(t, text+wrong, api.ErrText, len(text))
	}
}

func TestJ1WrongSign(t *testing.T) {
	for text, place := range map[string]int{
		"": 0, "  ": 2, "]": 0, "}": 0, ",": 0, ":": 0, "x": 0, "'a'": 0, "+1": 0, ".5": 0, "T": 0, "True": 0, "NaN": 0,
		"[": 1, "[]]": 2, "[1": 2, "[1,": 3, "[1,]": 3, "[,1]": 1, "[1,,2]": 3, "[1:2]": 2, "[1}": 2, "[}": 1, "[ ": 2, `["a":1]`: 4,
		"{": 1, "{}}": 2, "{]": 1, "{,}": 1, "{1:2}": 1, "{null:1}": 1, "{[]:1}": 1, `{"a"`: 4, `{"a"}`: 4, `{"a",`: 4, `{"a":`: 5, `{"a":}`: 5, `{"a":,`: 5, `{"a"::1}`: 5,
		`{"a":1`: 6, `{"a":1]`: 6, `{"a":1,`: 7, `{"a":1,}`: 7, `{"a":1,2}`: 7, `{"a":1 "b":2}`: 7, `{"a":1:`: 6, `{"a" 1}`: 5,
		"1,": 1, "[] []": 3, "{} 1": 3, `"a" "b"`: 4, "1]": 1, "1.0": 1, "1e3": 1, "1E3": 1, "-1.0": 2, "0x10": 1, "1_0": 1, "--1": 1, "1-": 1, "1+": 1, "-a": 1, "-": 1, "[-]": 2,
	} {
		checkWrong(t, text, api.ErrText, place)
	}
}

func TestJ1Words(t *testing.T) {
	for _, word := range []string{"t", "tr", "tru", "truee", "truex", "f", "fals", "falsefalse", "n", "nul", "nulll", "nulL", "nUll", "tRUE", "nan", "nil", "tru1", "truth", "fal\xff", "none"} {
		checkWrong(t, word, api.ErrText, 0)
		checkWrong(t, "[1, "+word+"]", api.ErrText, 4)
		checkWrong(t, `{"a":`+word, api.ErrText, 5)
	}
	checkWrong(t, "true1", api.ErrText, 4)
	checkWrong(t, "nullA", api.ErrText, 4)
	checkWrong(t, "false\"", api.ErrText, 5)
	checkWrong(t, "null{", api.ErrText, 4)
	checkWrong(t, "null true", api.ErrText, 5)
}

func TestJ1Integers(t *testing.T) {
	for text, n := range map[string]int{
		"0": 0, "-0": 0, "1": 1, "-1": -1, "10": 10, "9": 9, "100": 100, "-100": -100, "1234567890": 1234567890,
		"9007199254740990": 9007199254740990, "9007199254740991": 9007199254740991, "-9007199254740991": -9007199254740991,
	} {
		checkNodes(t, text, api.Node{Kind: 2, Num: n})
		checkNodes(t, "["+text+"]", api.Node{Kind: 4, Kids: []int{1}}, api.Node{Kind: 2, Num: n, At: 1})
	}
	for n := -300; n <= 300; n++ {
		checkNodes(t, fmt.Sprint(n), api.Node{Kind: 2, Num: n})
	}
}

func TestJ1NeedlessZeros(t *testing.T) {
	for _, text := range []string{"00", "01", "007", "0123456789", "00x", "01.5", "0" + strings.Repeat("9", 40), strings.Repeat("0", 1000)} {
		checkWrong(t, text, api.ErrText, 0)
		checkWrong(t, "-"+text, api.ErrText, 1)
		checkWrong(t, "[ -"+text+"]", api.ErrText, 3)
	}
}

func TestJ1Range(t *testing.T) {
	for _, text := range []string{
		"9007199254740992", "10000000000000000", "9223372036854775807", "9223372036854775808", "18446744073709551616", "18446744073709551617",
		"36893488147419103233", "1" + strings.Repeat("0", 400), strings.Repeat("9", maxText-10),
	} {
		checkWrong(t, text, api.ErrRange, 0)
		checkWrong(t, "-"+text, api.ErrRange, 0)
		checkWrong(t, "[1, -"+text+"]", api.ErrRange, 4)
		checkWrong(t, `{"a":`+text, api.ErrRange, 5)
		checkWrong(t, text+"x", api.ErrRange, 0)
	}
}

func TestJ1Depth(t *testing.T) {
	for _, pattern := range []string{"[", "{", "[{", "{[", "[[{", "{{["} {
		if _, e, _ := json.Parse(nested(pattern, maxDepth)); e != api.OK {
			t.Errorf("depth %d of %s: Parse tells %d", maxDepth, pattern, e)
		}
		place := strings.Index(nested(pattern, maxDepth), "1")
		for _, more := range []int{1, 2, 500} {
			checkWrong(t, nested(pattern, maxDepth+more), api.ErrDeep, place)
		}
		checkWrong(t, strings.Replace(nested(pattern, maxDepth), "1", "{", 1), api.ErrDeep, place)
		checkWrong(t, strings.Replace(nested(pattern, maxDepth), "1", "[", 1), api.ErrDeep, place)
	}
	checkWrong(t, strings.Repeat("[", maxText), api.ErrDeep, maxDepth)
}

// What has been ended is around nothing any more.
func TestJ1DepthOfEnded(t *testing.T) {
	flat := "[" + strings.Repeat("[],{},", 200) + "[]]"
	checkPrint(t, flat, flat)
	side := nested("[{", maxDepth-1)
	checkPrint(t, "["+side+","+side+"]", "["+side+","+side+"]")
	checkWrong(t, "["+side+",["+side+"]]", api.ErrDeep, 1+len(side)+2+strings.Index(side, "1")-1)
}

func TestJ1Twice(t *testing.T) {
	checkWrong(t, `{"a":1,"a":2}`, api.ErrTwice, 7)
	checkWrong(t, `{"a":1, "b":2 ,"a"`, api.ErrTwice, 15)
	checkWrong(t, `{"a":1,"a" 2}`, api.ErrTwice, 7)
	checkWrong(t, `{"":1,"":2}`, api.ErrTwice, 6)
	checkWrong(t, `{"a":1,"\u0061":2}`, api.ErrTwice, 7)
	checkWrong(t, `{"\u0061":1,"a":2}`, api.ErrTwice, 12)
	checkWrong(t, `{"😀":1,"\uD83d\ude00":2}`, api.ErrTwice, 10)
	checkWrong(t, `{"/":1,"\/":2}`, api.ErrTwice, 7)
	checkWrong(t, `{"\n":1,"\u000a":2}`, api.ErrTwice, 8)
	checkWrong(t, `[{"a":{"b":1,"b":2}}]`, api.ErrTwice, 13)
	checkWrong(t, `{"a":{"a":[{"a":1}]},"a":2}`, api.ErrTwice, 21)
}

func TestJ1NotTwice(t *testing.T) {
	for _, text := range []string{`{"a":{"a":[{"a":1},{"a":2}]},"b":{"a":3}}`, `{"":2,"A":1,"a":0}`, `{"a":"a","b":"a"}`, `{"a":1,"a ":2}`} {
		checkPrint(t, text, text)
	}
	checkWrong(t, `{"a":1,"a`, api.ErrText, 9)
	checkWrong(t, `{"a":1,"a\x":2}`, api.ErrText, 10)
}

func TestJ1Long(t *testing.T) {
	checkPrint(t, long(maxText), long(maxText))
	checkNodes(t, strings.Repeat(" ", maxText-1)+"1", api.Node{Kind: 2, Num: 1, At: maxText - 1})
	checkWrong(t, strings.Repeat(" ", maxText), api.ErrText, maxText)
	checkWrong(t, long(maxText+1), api.ErrLong, 0)
	checkWrong(t, strings.Repeat(" ", maxText)+"1", api.ErrLong, 0)
	checkWrong(t, "x"+strings.Repeat(" ", maxText), api.ErrLong, 0)
	checkWrong(t, strings.Repeat("[", 1<<20), api.ErrLong, 0)
}

func TestJ1MetFirst(t *testing.T) {
	const big = "9007199254740992"
	checkWrong(t, "["+big+",x]", api.ErrRange, 1)
	checkWrong(t, "[x,"+big+"]", api.ErrText, 1)
	checkWrong(t, `{"a":1,"a":`+big+"}", api.ErrTwice, 7)
	checkWrong(t, `{"a":`+big+`,"a":1}`, api.ErrRange, 5)
	checkWrong(t, `{"a":01,"a":1}`, api.ErrText, 5)
	checkWrong(t, strings.Repeat("[", maxDepth+1)+"x", api.ErrDeep, maxDepth)
	checkWrong(t, strings.Repeat("[", maxDepth)+"x[", api.ErrText, maxDepth)
	checkWrong(t, strings.Repeat("[", maxDepth)+big+",[", api.ErrRange, maxDepth)
	checkWrong(t, strings.Repeat("[", maxDepth)+`"`+"\xff"+`"[`, api.ErrText, maxDepth+1)
	checkWrong(t, `{"a":1,"a":"\ud800"}`, api.ErrTwice, 7)
	checkWrong(t, `{"a":1,"\ud800":1,"a":2}`, api.ErrText, 8)
	checkWrong(t, `"\ud800`+"\xff", api.ErrText, 1)
	checkWrong(t, `["\q", "\ud800"]`, api.ErrText, 3)
}

// Lists of one answer, or of two, share nothing.
func TestJ1NewMemory(t *testing.T) {
	const text = `[[1,2],[3,4],[5,6,7]]`
	one, _, _ := json.Parse(text)
	two, _, _ := json.Parse(text)
	for i := range one {
		kids := one[i].Kids[:cap(one[i].Kids)]
		for j := range kids {
			kids[j] = -1 - i
		}
	}
	for i := range one {
		for _, kid := range one[i].Kids {
			if kid != -1-i {
				t.Errorf("node %d shares its kids", i)
			}
		}
	}
	if again, _, _ := json.Parse(text); fmt.Sprint(again) != fmt.Sprint(two) {
		t.Errorf("Parse(%q) = %v, then %v", text, two, again)
	}
}
