package token

import (
	"strings"

	"notary/api"
	"notary/base"
	"notary/digest"
	"notary/json"
)

// opened is what a token tells, and what its mac is held against.
type opened struct {
	api.Header
	body   string
	signed string
	mac    string
}

// open reads a token without asking who signed it.
func open(token string) (opened, api.Errno, int) {
	if len(token) > maxText {
		return opened{}, api.ErrLong, 0
	}
	parts, err, at := split(token)
	if err != api.OK {
		return opened{}, err, at
	}
	data, err, at := decode(parts)
	if err != api.OK {
		return opened{}, err, at
	}
	o := opened{body: data[1], mac: data[2], signed: parts[0] + "." + parts[1]}
	if err := o.fill(data[0]); err != api.OK {
		return opened{}, err, 0
	}
	return o, api.OK, 0
}

// fill takes the header from a head, and tells what is wrong with that or with what stands behind it.
func (o *opened) fill(head string) api.Errno {
	h, ok := readHead(head)
	if !ok {
		return api.ErrHead
	}
	o.Header = h
	form, err, _ := json.Print(o.body)
	if err != api.OK || form != o.body || !isObject(form) {
		return api.ErrBody
	}
	if len(o.mac) != digest.Size(o.Alg) {
		return api.ErrSign
	}
	return api.OK
}

// split tells what stands around two dots, or where there are not just two.
func split(token string) ([3]string, api.Errno, int) {
	parts := strings.SplitN(token, ".", 4)
	if len(parts) < 3 {
		return [3]string{}, api.ErrText, len(token)
	}
	if len(parts) > 3 {
		return [3]string{}, api.ErrText, len(token) - len(parts[3]) - len(".")
	}
	return [3]string(parts), api.OK, 0
}

// decode tells the parts' bytes, or the place in the whole token where the first wrong one goes wrong.
func decode(parts [3]string) ([3]string, api.Errno, int) {
	var data [3]string
	ahead := 0
	for i, part := range parts {
		bytes, err, at := base.Decode(part)
		if err != api.OK {
			return [3]string{}, err, ahead + at
		}
		data[i] = bytes
		ahead += len(part) + len(".")
	}
	return data, api.OK, 0
}
