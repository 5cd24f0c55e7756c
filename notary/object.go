package notary

import (
	"notary/api"
	"notary/json"
)

// kinds are the members that an object has to have, and the kind of each.
type kinds map[string]int

// object is what New and Do are asked by: a tree of which node 0 is an object.
type object struct{ nodes []api.Node }

func read(text string) (object, error) {
	nodes, number, at := json.Parse(text)
	if number != api.OK {
		return object{}, placed{refusal{number}, at}
	}
	if nodes[0].Kind != json.KindObject {
		return object{}, placed{refusal{api.ErrKind}, nodes[0].At}
	}
	return object{nodes}, nil
}

// check tells the first member that is none of those that are told, or of another kind; then whether one lacks.
func (o object) check(members kinds) error {
	for _, kid := range o.nodes[0].Kids {
		member := o.nodes[kid]
		if kind, is := members[member.Key]; !is || member.Kind != kind {
			return placed{refusal{api.ErrKind}, member.At}
		}
	}
	// No name stands twice and no other one was let by, so where one lacks there are fewer.
	if len(o.nodes[0].Kids) < len(members) {
		return refusal{api.ErrNone}
	}
	return nil
}

// find tells the number of a member's node, or 0 if there is none: that is the object's own, which has neither text nor number.
func (o object) find(name string) int {
	for _, kid := range o.nodes[0].Kids {
		if o.nodes[kid].Key == name {
			return kid
		}
	}
	return 0
}

func (o object) text(name string) string { return o.nodes[o.find(name)].Text }

func (o object) number(name string) int { return o.nodes[o.find(name)].Num }

func (o object) truth(name string) bool { return o.number(name) == 1 }

func (o object) form(name string) string { return json.Form(o.nodes, o.find(name)) }
