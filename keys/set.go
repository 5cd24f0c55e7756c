package keys

import (
	"notary/api"
	"notary/base"
	"notary/json"
	"notary/token"
)

// keyType is what every key is: bytes, and nothing else.
const keyType = "oct"

// set is a set of keys that is being read.
type set struct {
	nodes   []api.Node
	members map[string]func(key *api.Key, text string) api.Errno
	keys    []api.Key
	objects []api.Node // of each key the object that told it
}

// members tells what each member of an object does to the key that is read from it.
func members() map[string]func(key *api.Key, text string) api.Errno {
	return map[string]func(key *api.Key, text string) api.Errno{
		"alg": func(key *api.Key, text string) api.Errno {
			key.Alg = token.AlgOf(text)
			return unless(key.Alg != 0, api.ErrAlg)
		},
		"k": func(key *api.Key, text string) (err api.Errno) {
			key.Key, err, _ = base.Decode(text)
			return err
		},
		"kid": func(key *api.Key, text string) api.Errno {
			key.Kid = text
			return unless(token.Kid(text), api.ErrKid)
		},
		"kty": func(_ *api.Key, text string) api.Errno {
			return unless(text == keyType, api.ErrText)
		},
	}
}

// unless tells an error, unless what is asked for holds.
func unless(holds bool, err api.Errno) api.Errno {
	if holds {
		return api.OK
	}
	return err
}

// read goes over the nodes by their numbers and looks at each by itself; what the keys lack is asked when all have been read.
func (s *set) read() (api.Errno, int) {
	root := s.nodes[0]
	if root.Kind != json.KindObject {
		return api.ErrKind, root.At
	}
	for _, kid := range root.Kids {
		if err, at := s.readKeys(s.nodes[kid]); err != api.OK {
			return err, at
		}
	}
	// No name stands twice and no other one was let by, so a member is the keys.
	return unless(len(root.Kids) > 0, api.ErrNone), 0
}

func (s *set) readKeys(list api.Node) (api.Errno, int) {
	if list.Key != "keys" || list.Kind != json.KindArray {
		return api.ErrKind, list.At
	}
	for _, kid := range list.Kids {
		if err, at := s.readKey(s.nodes[kid]); err != api.OK {
			return err, at
		}
	}
	return api.OK, 0
}

func (s *set) readKey(object api.Node) (api.Errno, int) {
	if object.Kind != json.KindObject {
		return api.ErrKind, object.At
	}
	if len(s.keys) >= MaxKeys {
		return api.ErrMany, object.At
	}
	var key api.Key
	for _, kid := range object.Kids {
		if err := s.readMember(&key, s.nodes[kid]); err != api.OK {
			return err, s.nodes[kid].At
		}
	}
	s.keys = append(s.keys, key)
	s.objects = append(s.objects, object)
	return api.OK, 0
}

func (s *set) readMember(key *api.Key, member api.Node) api.Errno {
	do := s.members[member.Key]
	if do == nil || member.Kind != json.KindString {
		return api.ErrKind
	}
	return do(key, member.Text)
}

// check looks at each key as a whole, and at those ahead of it.
func (s *set) check() (api.Errno, int) {
	for n, key := range s.keys {
		switch object := s.objects[n]; {
		case len(object.Kids) < len(s.members):
			return api.ErrNone, object.At
		case !token.Fits(key.Key, key.Alg):
			return api.ErrKey, object.At
		case Find(s.keys[:n], key.Kid) >= 0:
			return api.ErrTwice, object.At
		}
	}
	return api.OK, 0
}
