package sum

import "iter"

const (
	chunkSize = 64
	// lengthAt is where the number of bits stands in the last chunk.
	lengthAt = chunkSize - 8
	endMark  = 0x80
)

// chunk is the bytes that the state is stirred with at a time.
type chunk [chunkSize]byte

// chunks hands out the data and what comes behind it, 64 bytes at a time.
// The data itself is never copied as a whole: it may be large.
func chunks(data string) iter.Seq[chunk] {
	return func(yield func(chunk) bool) {
		rest := data
		for ; len(rest) >= chunkSize; rest = rest[chunkSize:] {
			var c chunk
			copy(c[:], rest)
			if !yield(c) {
				return
			}
		}
		var c chunk
		n := copy(c[:], rest)
		c[n] = endMark
		// The mark may leave too little room for the length.
		if n >= lengthAt {
			if !yield(c) {
				return
			}
			c = chunk{}
		}
		yield(c.withLength(8 * uint64(len(data))))
	}
}

// withLength tells the chunk with a number of bits as its last 8 bytes.
func (c chunk) withLength(bits uint64) chunk {
	for i := chunkSize - 1; i >= lengthAt; i-- {
		c[i] = byte(bits)
		bits >>= 8
	}
	return c
}

// words tells the chunk's words, the highest byte of each one first.
func (c chunk) words() words {
	var w words
	for i := range w {
		at := wordSize * i
		w[i] = uint32(c[at])<<24 | uint32(c[at+1])<<16 | uint32(c[at+2])<<8 | uint32(c[at+3])
	}
	return w
}
