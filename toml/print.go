package toml

import (
	"slices"
	"strconv"
	"strings"

	"pantry/api"
)

const hexSigns = "0123456789ABCDEF"

// printer writes a tree's one form.
type printer struct {
	nodes []api.Node
	out   strings.Builder
	// path is the keys that lead to the table that is being written.
	path []byte
}

// visit is a table that is still to be written.
type visit struct {
	table  int
	key    string
	double bool
	// above is how much of the path is the table's above this one.
	above int
}

// form writes a tree. What is still to be written stands on a list and not in
// calls within calls: one header may lead as deep as a text is long.
func form(nodes []api.Node) string {
	p := printer{nodes: nodes}
	p.pairs(root)
	todo := p.below(root, nil)
	for len(todo) > 0 {
		last := len(todo) - 1
		v := todo[last]
		todo = todo[:last]
		p.header(v)
		p.pairs(v.table)
		todo = p.below(v.table, todo)
	}
	return p.out.String()
}

// sorted tells a table's kids by their keys.
func (p *printer) sorted(table int) []int {
	kids := slices.Clone(p.nodes[table].Kids)
	slices.SortFunc(kids, func(a, b int) int {
		return strings.Compare(p.nodes[a].Key, p.nodes[b].Key)
	})
	return kids
}

// below puts the tables within a table on the list, the first one last: from
// there it is taken first.
func (p *printer) below(table int, todo []visit) []visit {
	for _, n := range slices.Backward(p.sorted(table)) {
		kid := p.nodes[n]
		switch kid.Kind {
		case Table:
			todo = append(todo, visit{n, kid.Key, false, len(p.path)})
		case Tables:
			for _, m := range slices.Backward(kid.Kids) {
				todo = append(todo, visit{m, kid.Key, true, len(p.path)})
			}
		}
	}
	return todo
}

func (p *printer) header(v visit) {
	p.path = p.path[:v.above]
	if v.above > 0 {
		p.path = append(p.path, '.')
	}
	p.path = append(p.path, keyText(v.key)...)
	if p.out.Len() > 0 {
		p.out.WriteByte('\n')
	}
	open, shut := "[", "]\n"
	if v.double {
		open, shut = "[[", "]]\n"
	}
	p.out.WriteString(open)
	p.out.Write(p.path)
	p.out.WriteString(shut)
}

func (p *printer) pairs(table int) {
	for _, n := range p.sorted(table) {
		kid := p.nodes[n]
		if kid.Kind == Table || kid.Kind == Tables {
			continue
		}
		p.out.WriteString(keyText(kid.Key))
		p.out.WriteString(" = ")
		p.value(kid)
		p.out.WriteByte('\n')
	}
}

func (p *printer) value(n api.Node) {
	switch n.Kind {
	case List:
		p.list(n.Kids)
	case String:
		p.out.WriteString(quote(n.Text))
	case Integer:
		p.out.WriteString(strconv.Itoa(n.Num))
	case Truth:
		p.out.WriteString(strconv.FormatBool(n.Num == 1))
	}
}

func (p *printer) list(kids []int) {
	p.out.WriteByte('[')
	for i, n := range kids {
		if i > 0 {
			p.out.WriteString(", ")
		}
		p.value(p.nodes[n])
	}
	p.out.WriteByte(']')
}

func keyText(name string) string {
	if name == "" {
		return quote(name)
	}
	for i := range len(name) {
		if !isBare(int(name[i])) {
			return quote(name)
		}
	}
	return name
}

func quote(text string) string {
	var out strings.Builder
	out.WriteByte('"')
	for i := range len(text) {
		c := text[i]
		if letter := strings.IndexByte(escapeBytes, c); letter >= 0 {
			out.WriteByte('\\')
			out.WriteByte(escapeLetters[letter])
		} else if isControl(int(c)) {
			out.WriteString(`\u00`)
			out.WriteByte(hexSigns[c>>4])
			out.WriteByte(hexSigns[c&15])
		} else {
			out.WriteByte(c)
		}
	}
	out.WriteByte('"')
	return out.String()
}
