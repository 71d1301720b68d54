package toml

import (
	"strconv"
	"strings"
	"unicode/utf8"
)

const (
	// escapeLetters stand behind a "\" for the bytes of escapeBytes.
	escapeLetters = `btnfr"\`
	escapeBytes   = "\b\t\n\f\r\"\\"

	runeSigns = 4
	// maxDigits is how many digits the greatest integer has: all nines.
	maxDigits = 18
)

// key reads a bare key or a string. The name is a copy, so that the tree
// shares nothing with the text.
func (r *reader) key() (key, error) {
	from := r.at
	if r.next() == '"' {
		name, err := r.quoted()
		return key{name, from}, err
	}
	for isBare(r.next()) {
		r.at++
	}
	if r.at == from {
		return key{}, r.wrongHere()
	}
	return key{strings.Clone(r.text[from:r.at]), from}, nil
}

// value reads a value into a new node below parent; lists are how many lists
// it stands within.
func (r *reader) value(parent int, k key, lists int) error {
	switch c := r.next(); {
	case c == '"':
		n := r.tree.add(parent, String, k)
		text, err := r.quoted()
		r.tree.nodes[n].Text = text
		return err
	case c == '+' || c == '-' || isDigit(c):
		n := r.tree.add(parent, Integer, k)
		num, err := r.integer()
		r.tree.nodes[n].Num = num
		return err
	case c == 't' || c == 'f':
		n := r.tree.add(parent, Truth, k)
		num, err := r.truth()
		r.tree.nodes[n].Num = num
		return err
	case c == '[' && lists == maxNest:
		return wrong(errMany, r.at)
	case c == '[':
		return r.list(r.tree.add(parent, List, k), lists+1)
	}
	return r.wrongHere()
}

// list reads the values of a list; lists counts it too.
func (r *reader) list(node, lists int) error {
	r.at++
	for {
		if err := r.skipGap(); err != nil {
			return err
		}
		if r.next() == ']' {
			break
		}
		if err := r.value(node, key{at: r.at}, lists); err != nil {
			return err
		}
		if err := r.skipGap(); err != nil {
			return err
		}
		if r.next() != ',' {
			break
		}
		r.at++
	}
	return r.take(']')
}

// skipGap goes behind what may stand between the parts of a list.
func (r *reader) skipGap() error {
	for {
		r.skipBlanks()
		if err := r.comment(); err != nil {
			return err
		}
		if r.next() != '\n' {
			return nil
		}
		r.at++
	}
}

// quoted reads a string.
func (r *reader) quoted() (string, error) {
	r.at++
	var out strings.Builder
	for r.next() != '"' {
		if r.next() == '\\' {
			c, err := r.escape()
			if err != nil {
				return "", err
			}
			out.WriteRune(c)
			continue
		}
		if r.next() == noByte || isBarred(r.next()) {
			return "", r.wrongHere()
		}
		c, size := utf8.DecodeRuneInString(r.text[r.at:])
		// That rune may also stand there itself, as three bytes.
		if c == utf8.RuneError && size == 1 {
			return "", r.wrongHere()
		}
		out.WriteString(r.text[r.at : r.at+size])
		r.at += size
	}
	r.at++
	return out.String(), nil
}

// escape reads an escape, and tells the rune that it stands for.
func (r *reader) escape() (rune, error) {
	from := r.at
	r.at++
	if r.next() == 'u' {
		r.at++
		return r.numbered(from)
	}
	if r.next() == noByte {
		return 0, r.wrongHere()
	}
	i := strings.IndexByte(escapeLetters, r.text[r.at])
	if i < 0 {
		return 0, r.wrongHere()
	}
	r.at++
	return rune(escapeBytes[i]), nil
}

// numbered reads the signs of a \u, which began at from.
func (r *reader) numbered(from int) (rune, error) {
	var c rune
	for range runeSigns {
		d := hexValue(r.next())
		if d < 0 {
			return 0, r.wrongHere()
		}
		c = c<<4 | rune(d)
		r.at++
	}
	if !utf8.ValidRune(c) {
		return 0, wrong(errText, from)
	}
	return c, nil
}

func (r *reader) integer() (int, error) {
	from := r.at
	if !isDigit(r.next()) {
		r.at++
	}
	first := r.at
	for isDigit(r.next()) {
		r.at++
	}
	digits := r.text[first:r.at]
	switch {
	case digits == "":
		return 0, r.wrongHere()
	case digits[0] == '0' && len(digits) > 1:
		return 0, wrong(errText, first)
	case len(digits) > maxDigits:
		return 0, wrong(errRange, from)
	}
	num, err := strconv.Atoi(r.text[from:r.at])
	if err != nil {
		return 0, wrong(errRange, from)
	}
	return num, nil
}

// truth reads a word, and tells the number that stands for it in a node.
func (r *reader) truth() (int, error) {
	from := r.at
	for isSmall(r.next()) {
		r.at++
	}
	switch r.text[from:r.at] {
	case "true":
		return 1, nil
	case "false":
		return 0, nil
	}
	return 0, wrong(errText, from)
}
