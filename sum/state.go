package sum

import "math/bits"

const (
	rounds     = 64
	wordSize   = 4
	stateWords = 8
	sumSize    = stateWords * wordSize
)

type (
	// words is a chunk as numbers.
	words [chunkSize / wordSize]uint32
	// schedule is a word for each round.
	schedule [rounds]uint32
	// state is h0 to h7, or a to h.
	state [stateWords]uint32
)

// roundWords are k0 to k63.
var roundWords = [rounds]uint32{
	0x428a2f98, 0x71374491, 0xb5c0fbcf, 0xe9b5dba5, 0x3956c25b, 0x59f111f1, 0x923f82a4, 0xab1c5ed5,
	0xd807aa98, 0x12835b01, 0x243185be, 0x550c7dc3, 0x72be5d74, 0x80deb1fe, 0x9bdc06a7, 0xc19bf174,
	0xe49b69c1, 0xefbe4786, 0x0fc19dc6, 0x240ca1cc, 0x2de92c6f, 0x4a7484aa, 0x5cb0a9dc, 0x76f988da,
	0x983e5152, 0xa831c66d, 0xb00327c8, 0xbf597fc7, 0xc6e00bf3, 0xd5a79147, 0x06ca6351, 0x14292967,
	0x27b70a85, 0x2e1b2138, 0x4d2c6dfc, 0x53380d13, 0x650a7354, 0x766a0abb, 0x81c2c92e, 0x92722c85,
	0xa2bfe8a1, 0xa81a664b, 0xc24b8b70, 0xc76c51a3, 0xd192e819, 0xd6990624, 0xf40e3585, 0x106aa070,
	0x19a4c116, 0x1e376c08, 0x2748774c, 0x34b0bcb5, 0x391c0cb3, 0x4ed8aa4a, 0x5b9cca4f, 0x682e6ff3,
	0x748f82ee, 0x78a5636f, 0x84c87814, 0x8cc70208, 0x90befffa, 0xa4506ceb, 0xbef9a3f7, 0xc67178f2,
}

func startState() state {
	return state{
		0x6a09e667, 0xbb67ae85, 0x3c6ef372, 0xa54ff53a,
		0x510e527f, 0x9b05688c, 0x1f83d9ab, 0x5be0cd19,
	}
}

func rotr(x uint32, n int) uint32 {
	return bits.RotateLeft32(x, -n)
}

// spread makes a word for each round out of a chunk's words.
func (w words) spread() schedule {
	var s schedule
	copy(s[:], w[:])
	for i := len(w); i < len(s); i++ {
		x, y := s[i-15], s[i-2]
		s[i] = s[i-16] + (rotr(x, 7) ^ rotr(x, 18) ^ x>>3) +
			s[i-7] + (rotr(y, 17) ^ rotr(y, 19) ^ y>>10)
	}
	return s
}

// stirred tells the state after all rounds; the receiver is a copy, so what
// it is added to afterwards is still the old one.
func (s state) stirred(w schedule) state {
	a, b, c, d, e, f, g, h := s[0], s[1], s[2], s[3], s[4], s[5], s[6], s[7]
	for i := range rounds {
		t := h + (rotr(e, 6) ^ rotr(e, 11) ^ rotr(e, 25)) + (e&f ^ ^e&g) + roundWords[i] + w[i]
		u := (rotr(a, 2) ^ rotr(a, 13) ^ rotr(a, 22)) + (a&b ^ a&c ^ b&c)
		a, b, c, d, e, f, g, h = t+u, a, b, c, d+t, e, f, g
	}
	return state{a, b, c, d, e, f, g, h}
}

func (s state) plus(other state) state {
	for i := range s {
		s[i] += other[i]
	}
	return s
}

// text tells the state's bytes, the highest one of each word first.
func (s state) text() string {
	out := make([]byte, 0, sumSize)
	for _, w := range s {
		out = append(out, byte(w>>24), byte(w>>16), byte(w>>8), byte(w))
	}
	return string(out)
}
