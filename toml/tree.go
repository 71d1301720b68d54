package toml

import "pantry/api"

const root = 0

// key is a key as it stands in the text, and where.
type key struct {
	name string
	at   int
}

// spot is a key's place in a tree: the table that has it, and its name.
type spot struct {
	table int
	name  string
}

// holding is what stands at a spot.
type holding struct {
	node  int
	ended bool // a header ended there: no second one may
}

// tree is what has been read so far.
type tree struct {
	nodes []api.Node
	held  map[spot]holding
	// hand is the table at hand.
	hand int
}

func newTree() *tree {
	return &tree{
		nodes: []api.Node{{Kind: Table}},
		held:  map[spot]holding{},
		hand:  root,
	}
}

// add makes a node below another one. A list's kids are not held: they have
// no name to be found by.
func (t *tree) add(parent, kind int, k key) int {
	n := len(t.nodes)
	t.nodes = append(t.nodes, api.Node{Kind: kind, Key: k.name, At: k.at})
	t.nodes[parent].Kids = append(t.nodes[parent].Kids, n)
	if t.nodes[parent].Kind == Table {
		t.held[spot{parent, k.name}] = holding{node: n}
	}
	return n
}

// enter makes the table that a header leads to the one at hand.
func (t *tree) enter(keys []key, double bool) error {
	last := len(keys) - 1
	table := root
	for _, k := range keys[:last] {
		next, err := t.pass(table, k)
		if err != nil {
			return err
		}
		table = next
	}
	var err error
	if double {
		t.hand, err = t.endTables(table, keys[last])
	} else {
		t.hand, err = t.endTable(table, keys[last])
	}
	return err
}

// pass tells the table that a header goes on with behind a key on its way.
func (t *tree) pass(table int, k key) (int, error) {
	h, ok := t.held[spot{table, k.name}]
	if !ok {
		return t.add(table, Table, k), nil
	}
	switch n := t.nodes[h.node]; n.Kind {
	case Table:
		return h.node, nil
	case Tables:
		return n.Kids[len(n.Kids)-1], nil
	}
	return 0, wrong(errTwice, k.at)
}

// endTable tells the table that a header [..] ends at.
func (t *tree) endTable(table int, k key) (int, error) {
	s := spot{table, k.name}
	h, ok := t.held[s]
	if !ok {
		h.node = t.add(table, Table, k)
	} else if h.ended || t.nodes[h.node].Kind != Table {
		return 0, wrong(errTwice, k.at)
	}
	h.ended = true
	t.held[s] = h
	return h.node, nil
}

// endTables tells the new table that a header [[..]] ends at.
func (t *tree) endTables(table int, k key) (int, error) {
	h, ok := t.held[spot{table, k.name}]
	if !ok {
		h.node = t.add(table, Tables, k)
	} else if t.nodes[h.node].Kind != Tables {
		return 0, wrong(errTwice, k.at)
	}
	return t.add(h.node, Table, key{at: k.at}), nil
}

// free refuses a pair's key that the table at hand has.
func (t *tree) free(k key) error {
	if _, ok := t.held[spot{t.hand, k.name}]; ok {
		return wrong(errTwice, k.at)
	}
	return nil
}
