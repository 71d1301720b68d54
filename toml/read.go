package toml

import "pantry/api"

// noByte is what stands behind the text's last byte.
const noByte = -1

// reader goes through a text from the left, and never back: so the first
// fault that it meets is the one to be told.
type reader struct {
	text string
	at   int
	tree *tree
}

func read(text string) ([]api.Node, error) {
	if len(text) > maxText {
		return nil, errLong
	}
	r := reader{text: text, tree: newTree()}
	for r.at < len(r.text) {
		if err := r.line(); err != nil {
			return nil, err
		}
	}
	return r.tree.nodes, nil
}

// next tells the byte that comes, or noByte at the text's end.
func (r *reader) next() int {
	if r.at == len(r.text) {
		return noByte
	}
	return int(r.text[r.at])
}

// wrongHere refuses the byte that comes, or the text's end.
func (r *reader) wrongHere() error {
	return wrong(errText, r.at)
}

// take goes behind a byte that has to come.
func (r *reader) take(c int) error {
	if r.next() != c {
		return r.wrongHere()
	}
	r.at++
	return nil
}

func (r *reader) skipBlanks() {
	for isBlank(r.next()) {
		r.at++
	}
}

func (r *reader) line() error {
	r.skipBlanks()
	var err error
	switch c := r.next(); {
	case c == '[':
		err = r.header()
	case c == '"' || isBare(c):
		err = r.pair()
	}
	if err != nil {
		return err
	}
	r.skipBlanks()
	if err := r.comment(); err != nil {
		return err
	}
	if r.next() == noByte {
		return nil
	}
	return r.take('\n')
}

// comment goes up to the line's end, if there is a comment.
func (r *reader) comment() error {
	if r.next() != '#' {
		return nil
	}
	for r.next() != noByte && r.next() != '\n' {
		if isBarred(r.next()) {
			return r.wrongHere()
		}
		r.at++
	}
	return nil
}

func (r *reader) header() error {
	r.at++
	double := r.next() == '['
	if double {
		r.at++
	}
	keys, err := r.keys()
	if err != nil {
		return err
	}
	if err := r.take(']'); err != nil {
		return err
	}
	if double {
		if err := r.take(']'); err != nil {
			return err
		}
	}
	return r.tree.enter(keys, double)
}

// keys reads a header's keys, and the blanks around each of them.
func (r *reader) keys() ([]key, error) {
	var keys []key
	for {
		r.skipBlanks()
		k, err := r.key()
		if err != nil {
			return nil, err
		}
		keys = append(keys, k)
		r.skipBlanks()
		if r.next() != '.' {
			return keys, nil
		}
		r.at++
	}
}

func (r *reader) pair() error {
	k, err := r.key()
	if err != nil {
		return err
	}
	r.skipBlanks()
	if err := r.take('='); err != nil {
		return err
	}
	// A fault of the key counts ahead of those of the value behind it.
	if err := r.tree.free(k); err != nil {
		return err
	}
	r.skipBlanks()
	return r.value(r.tree.hand, k, 0)
}
