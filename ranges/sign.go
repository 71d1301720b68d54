package ranges

import "pantry/api"

// sign is what may stand ahead of a partial.
type sign struct {
	text   string
	admits func(p partial) api.Span
}

// signs tells all of them. The first one that stands in a text is meant: so a
// sign stands ahead of one that begins it, and the sign that is none is last.
func signs() []sign {
	return []sign{
		{">=", func(p partial) api.Span { return api.Span{From: p.first, Open: true} }},
		{"<=", upTo},
		{">", behind},
		{"<", func(p partial) api.Span { return api.Span{From: lowest(), To: p.first} }},
		{"=", partial.named},
		{"^", func(p partial) api.Span { return p.alike(p.leading()) }},
		{"~", func(p partial) api.Span { return p.alike(min(p.given, 2)) }},
		{"", partial.named},
	}
}

// upTo tells what is named, and what stands ahead of all of it.
func upTo(p partial) api.Span {
	s := p.named()
	s.From = lowest()
	return s
}

// behind tells what stands behind all that is named.
func behind(p partial) api.Span {
	named := p.named()
	if named.Open {
		return api.Span{From: lowest(), To: lowest()}
	}
	return api.Span{From: named.To, Open: true}
}

// between tells what stands from the first one that the one names up to all
// that the other one names.
func between(p, q partial) api.Span {
	s := q.named()
	s.From = p.first
	return s
}
