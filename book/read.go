package book

import (
	"pantry/api"
	"pantry/toml"
)

// look tells what is wrong with a node, and takes over what it says, if
// nothing is.
type look func(n api.Node) api.Errno

// tree is a text's nodes, and beside each of them what is kept to look at it.
// What looks at a node may keep looks at its kids: their numbers are greater,
// so that their turn is still to come.
type tree struct {
	nodes []api.Node
	looks []look
}

// read reads a text and gives its tree to what makes something of it.
func read[T any](text string, maker func(t *tree) (T, api.Errno, int)) (T, api.Errno, int) {
	var none T
	nodes, errno, at := toml.Parse(text)
	if errno != api.OK {
		return none, errno, at
	}
	made, errno, at := maker(newTree(nodes))
	if errno != api.OK {
		return none, errno, at
	}
	return made, api.OK, 0
}

func newTree(nodes []api.Node) *tree {
	return &tree{nodes: nodes, looks: make([]look, len(nodes))}
}

func (t *tree) root() api.Node { return t.nodes[0] }

// keep keeps what is to look at a node's kids.
func (t *tree) keep(parent api.Node, kid look) {
	for _, n := range parent.Kids {
		t.looks[n] = kid
	}
}

// check goes through the nodes by their numbers, not from tables to their
// kids: a header may come back to a table when others are there already.
func (t *tree) check() (api.Errno, int) {
	for i, n := range t.nodes {
		if t.looks[i] == nil {
			continue
		}
		if errno := t.looks[i](n); errno != api.OK {
			return errno, n.At
		}
	}
	return api.OK, 0
}

// take takes over a node's text, if it is a string of that kind.
func take(n api.Node, is func(string) bool, to *string) api.Errno {
	if n.Kind != toml.String {
		return api.ErrKind
	}
	if !is(n.Text) {
		return api.ErrText
	}
	*to = n.Text
	return api.OK
}
