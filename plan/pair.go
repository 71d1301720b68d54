package plan

import (
	"pantry/api"
	"pantry/ver"
)

// pair is what both locks say of a name: nil, where one has no entry of it.
type pair struct {
	old, new *api.Entry
}

// pairsOf tells the pairs by their names, none of which a lock has twice.
func pairsOf(old, new []api.Entry) map[string]pair {
	pairs := make(map[string]pair, len(old)+len(new))
	for i := range old {
		pairs[old[i].Name] = pair{old: &old[i]}
	}
	for i := range new {
		p := pairs[new[i].Name]
		p.new = &new[i]
		pairs[new[i].Name] = p
	}
	return pairs
}

// line tells what becomes of a name; nothing, if it stays as it is.
func (p pair) line(name string) string {
	switch {
	case p.old == nil:
		return "add " + name + " " + p.new.Version + "\n"
	case p.new == nil:
		return "drop " + name + " " + p.old.Version + "\n"
	case p.old.Version == p.new.Version && p.old.Digest == p.new.Digest:
		return ""
	}
	return p.verb() + " " + name + " " + p.old.Version + " " + p.new.Version + "\n"
}

// verb tells which way a name's version goes. Both are right ones: PrintLock
// has taken them.
func (p pair) verb() string {
	from, _, _ := ver.Parse(p.old.Version)
	to, _, _ := ver.Parse(p.new.Version)
	switch ver.Compare(from, to) {
	case -1:
		return "raise"
	case 1:
		return "lower"
	}
	return "change"
}
