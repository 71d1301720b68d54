package book

import (
	"slices"

	"pantry/api"
	"pantry/sum"
	"pantry/toml"
)

// entryKeys is how many keys each table of a lock has.
const entryKeys = 4

// want is a value in a needs, and where it stands.
type want struct {
	name string
	at   int
}

// draft is what has been read of a lock so far.
type draft struct {
	tree      *tree
	formatted bool
	tables    []api.Node
	entries   []api.Entry // one for each of the tables
	wants     []want      // of all entries
}

func makeLock(t *tree) ([]api.Entry, api.Errno, int) {
	d := &draft{tree: t}
	t.keep(t.root(), func(n api.Node) api.Errno {
		switch n.Key {
		case "format":
			return d.format(n)
		case "package":
			if n.Kind == toml.Tables {
				t.keep(n, d.tableLook())
				return api.OK
			}
		}
		return api.ErrKind
	})
	if errno, at := t.check(); errno != api.OK {
		return nil, errno, at
	}
	if errno, at := d.lacks(); errno != api.OK {
		return nil, errno, at
	}
	return d.entries, api.OK, 0
}

func (d *draft) format(n api.Node) api.Errno {
	if n.Kind != toml.Integer {
		return api.ErrKind
	}
	if n.Num != lockFormat {
		return api.ErrRange
	}
	d.formatted = true
	return api.OK
}

// tableLook makes what looks at a table of package.
func (d *draft) tableLook() look {
	return func(n api.Node) api.Errno {
		if len(d.tables) == maxPackages {
			return api.ErrMany
		}
		d.tables = append(d.tables, n)
		d.entries = append(d.entries, api.Entry{})
		d.tree.keep(n, d.keyLook(len(d.entries)-1))
		return api.OK
	}
}

// keyLook makes what looks at a kid of an entry's table. It is told the
// entry's number: the entries move when more of them come.
func (d *draft) keyLook(entry int) look {
	return func(n api.Node) api.Errno {
		e := &d.entries[entry]
		switch n.Key {
		case "name":
			return d.name(n, e)
		case "version":
			return take(n, isVersion, &e.Version)
		case "digest":
			return take(n, sum.Check, &e.Digest)
		case "needs":
			if n.Kind == toml.List {
				d.tree.keep(n, d.valueLook(entry))
				return api.OK
			}
		}
		return api.ErrKind
	}
}

func (d *draft) name(n api.Node, e *api.Entry) api.Errno {
	var name string
	if errno := take(n, Name, &name); errno != api.OK {
		return errno
	}
	// The entry at hand has no name yet, so it is not in its own way.
	if slices.ContainsFunc(d.entries, func(other api.Entry) bool { return other.Name == name }) {
		return api.ErrTwice
	}
	e.Name = name
	return api.OK
}

// valueLook makes what looks at a value in an entry's needs.
func (d *draft) valueLook(entry int) look {
	return func(n api.Node) api.Errno {
		e := &d.entries[entry]
		var name string
		if errno := take(n, Name, &name); errno != api.OK {
			return errno
		}
		if slices.Contains(e.Needs, name) {
			return api.ErrTwice
		}
		if len(e.Needs) == maxNeeds {
			return api.ErrMany
		}
		e.Needs = append(e.Needs, name)
		d.wants = append(d.wants, want{name, n.At})
		return api.OK
	}
}

// lacks tells what is not there. It is asked when every node was found right:
// so a table's keys are of the four, none of them twice.
func (d *draft) lacks() (api.Errno, int) {
	if !d.formatted {
		return api.ErrNone, 0
	}
	for _, table := range d.tables {
		if len(table.Kids) < entryKeys {
			return api.ErrNone, table.At
		}
	}
	firsts := firstsOf(d.entries)
	for _, w := range d.wants {
		if _, ok := firsts[w.name]; !ok {
			return api.ErrNone, w.at
		}
	}
	return api.OK, 0
}
