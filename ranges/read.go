package ranges

import (
	"pantry/api"
	"pantry/scan"
	"pantry/span"
)

// reader reads a range. When one of its methods answers an error, At is the
// error's place.
type reader struct{ scan.Reader }

// test is a sign and a partial.
type test struct {
	sign    sign
	partial partial
}

// sets reads all sets of the range that the whole text is, and tells what one
// of them admits.
func (r *reader) sets() ([]api.Span, api.Errno) {
	var admitted []api.Span
	for {
		l, errno := r.set()
		if errno != api.OK {
			return nil, errno
		}
		admitted = append(admitted, l...)
		r.blanks()
		if r.Ended() {
			return admitted, api.OK
		}
		if !r.Take("||") {
			return nil, api.ErrText
		}
	}
}

// set reads a set, with the blanks ahead of it, and tells what it admits. It
// leaves it to its caller to look at what stands behind.
func (r *reader) set() ([]api.Span, api.Errno) {
	admitted := []api.Span{{From: lowest(), Open: true}}
	r.blanks()
	for first := true; !r.Ended() && !r.Next("|"); first = false {
		t, errno := r.test()
		if errno != api.OK {
			return nil, errno
		}
		apart := r.blanks()
		if first && t.sign.text == "" && apart && r.Take("-") {
			return r.between(t.partial)
		}
		// No error: all bounds of what is read are sound.
		admitted, _ = span.Meet(admitted, []api.Span{t.sign.admits(t.partial)})
		if !apart {
			break
		}
	}
	return admitted, api.OK
}

// between reads on behind the dash of a between.
func (r *reader) between(start partial) ([]api.Span, api.Errno) {
	if !r.blanks() {
		return nil, api.ErrText
	}
	end, errno := r.partial()
	if errno != api.OK {
		return nil, errno
	}
	return []api.Span{between(start, end)}, api.OK
}

func (r *reader) test() (test, api.Errno) {
	var t test
	for _, s := range signs() {
		if r.Take(s.text) {
			t.sign = s
			break
		}
	}
	var errno api.Errno
	t.partial, errno = r.partial()
	return t, errno
}

func (r *reader) partial() (partial, api.Errno) {
	p := partial{first: lowest()}
	for i, number := range numbersOf(&p.first) {
		if i > 0 && !r.Take(".") || r.wild() {
			return p, api.OK
		}
		var errno api.Errno
		if *number, errno = r.Number(); errno != api.OK {
			return partial{}, errno
		}
		p.given++
	}
	var errno api.Errno
	p.first.Pre, _, errno = r.Tail()
	return p, errno
}

func (r *reader) wild() bool { return r.Take("*") || r.Take("x") || r.Take("X") }

// blanks takes all blanks from here on, and tells whether there are any.
func (r *reader) blanks() bool {
	return r.Run(func(sign byte) bool { return sign == ' ' }) != ""
}
