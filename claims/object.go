package claims

import (
	"slices"

	"notary/api"
	"notary/json"
)

// object is a tree whose first node is an object.
type object struct{ nodes []api.Node }

// look tells what is wrong with a member, and where.
type look func(member api.Node) (api.Errno, int)

func parse(text string) (object, api.Errno, int) {
	nodes, err, at := json.Parse(text)
	if err != api.OK {
		return object{}, err, at
	}
	if nodes[0].Kind != json.KindObject {
		return object{}, api.ErrKind, nodes[0].At
	}
	return object{nodes}, api.OK, 0
}

// eachMember looks at the members by their numbers, up to the first with which something is wrong.
func (o object) eachMember(do look) (api.Errno, int) {
	for _, kid := range o.nodes[0].Kids {
		if err, at := do(o.nodes[kid]); err != api.OK {
			return err, at
		}
	}
	return api.OK, 0
}

// lacks tells whether the object has no member of one of the names.
func (o object) lacks(names ...string) bool {
	return slices.ContainsFunc(names, func(name string) bool {
		return !slices.ContainsFunc(o.nodes[0].Kids, func(kid int) bool { return o.nodes[kid].Key == name })
	})
}

// tellTo makes a look that tells claims what each member says.
func (o object) tellTo(c *api.Claims) look {
	numbers := map[string]*int{"iat": &c.Iat, "nbf": &c.Nbf, "exp": &c.Exp}
	return func(member api.Node) (err api.Errno, at int) {
		switch member.Key {
		case "iss":
			c.Iss = member.Text
			return checkIss(member)
		case "aud":
			c.Aud, err, at = o.readAud(member)
			return err, at
		}
		if number := numbers[member.Key]; number != nil {
			*number = member.Num
			return checkNumber(member)
		}
		return api.OK, 0
	}
}

func checkIss(member api.Node) (api.Errno, int) {
	if member.Kind != json.KindString {
		return api.ErrKind, member.At
	}
	return api.OK, 0
}

func checkNumber(member api.Node) (api.Errno, int) {
	if member.Kind != json.KindInteger {
		return api.ErrKind, member.At
	}
	if member.Num < 0 {
		return api.ErrRange, member.At
	}
	return api.OK, 0
}

// readAud tells whom claims are for: one text of a string, all of an array.
func (o object) readAud(member api.Node) ([]string, api.Errno, int) {
	if member.Kind == json.KindString {
		return []string{member.Text}, api.OK, 0
	}
	if member.Kind != json.KindArray || len(member.Kids) == 0 {
		return nil, api.ErrKind, member.At
	}
	var texts []string
	for _, kid := range member.Kids {
		if o.nodes[kid].Kind != json.KindString {
			return nil, api.ErrKind, o.nodes[kid].At
		}
		texts = append(texts, o.nodes[kid].Text)
	}
	return texts, api.OK, 0
}

// refuse is the look at what is to be sealed: what the seal adds must not be there, whatever it says.
func (o object) refuse(member api.Node) (api.Errno, int) {
	switch member.Key {
	case "iss", "iat", "nbf", "exp":
		return api.ErrTwice, member.At
	case "aud":
		_, err, at := o.readAud(member)
		return err, at
	}
	return api.OK, 0
}
