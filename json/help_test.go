package json_test

import (
	"reflect"
	"strings"
	"testing"

	"notary/api"
	"notary/json"
)

const (
	maxText  = 65536
	maxDepth = 32
)

// alike lays lists without anything in them alike: whether such a one is nil is not said.
func alike(nodes []api.Node) []api.Node {
	out := append([]api.Node{}, nodes...)
	for i := range out {
		if len(out[i].Kids) == 0 {
			out[i].Kids = nil
		}
	}
	return out
}

func checkNodes(t *testing.T, text string, want ...api.Node) {
	t.Helper()
	got, e, place := json.Parse(text)
	if e != api.OK || place != 0 || !reflect.DeepEqual(alike(got), alike(want)) {
		t.Errorf("Parse(%.200q) = %+v, %d, %d, want %+v, 0, 0", text, got, e, place, want)
	}
}

// checkWrong holds both calls to one error: J2 tells those of J1.
func checkWrong(t *testing.T, text string, want api.Errno, place int) {
	t.Helper()
	nodes, e, at := json.Parse(text)
	if nodes != nil || e != want || at != place {
		t.Errorf("Parse(%.200q) = %v, %d, %d, want nil, %d, %d", text, nodes, e, at, want, place)
	}
	form, e, at := json.Print(text)
	if form != "" || e != want || at != place {
		t.Errorf("Print(%.200q) = %.200q, %d, %d, want \"\", %d, %d", text, form, e, at, want, place)
	}
}

// checkPrint holds Print to a form, and that form to itself.
func checkPrint(t *testing.T, text, want string) {
	t.Helper()
	for _, text := range []string{text, want} {
		if got, e, at := json.Print(text); got != want || e != api.OK || at != 0 {
			t.Errorf("Print(%.200q) = %.200q, %d, %d, want %.200q, 0, 0", text, got, e, at, want)
		}
	}
}

// checkString holds Parse to the bytes of a string that is written by inner between its quotes.
func checkString(t *testing.T, inner, want string) {
	t.Helper()
	checkNodes(t, `"`+inner+`"`, api.Node{Kind: 3, Text: want})
}

// nested tells depth arrays or objects, one within the other, as the pattern's signs tell by turns.
func nested(pattern string, depth int) string {
	begin, end := "", ""
	for i := range depth {
		if pattern[i%len(pattern)] == '[' {
			begin, end = begin+"[", "]"+end
		} else {
			begin, end = begin+`{"a":`, "}"+end
		}
	}
	return begin + "1" + end
}

// long tells a string of n bytes in all, its quotes among them.
func long(n int) string { return `"` + strings.Repeat("x", n-2) + `"` }
