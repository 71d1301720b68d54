package sum

import (
	"strings"
	"testing"
)

// H1: how many chunks there are, and that the last 8 bytes tell the bits.
func TestChunks(t *testing.T) {
	for _, c := range []struct{ length, count int }{
		{0, 1}, {1, 1}, {55, 1}, {56, 2}, {63, 2}, {64, 2}, {65, 2},
		{119, 2}, {120, 3}, {127, 3}, {128, 3}, {183, 3}, {184, 4},
	} {
		var got strings.Builder
		for part := range chunks(strings.Repeat("a", c.length)) {
			got.Write(part[:])
		}
		want := strings.Repeat("a", c.length) + "\x80" +
			strings.Repeat("\x00", 64*c.count-c.length-9) +
			"\x00\x00\x00\x00\x00\x00" + string([]byte{byte(8 * c.length >> 8), byte(8 * c.length)})
		if got.String() != want {
			t.Errorf("chunks of %d bytes: %q, want %q", c.length, got.String(), want)
		}
	}
}

// Who ranges over the chunks may stop at any of them.
func TestChunksStop(t *testing.T) {
	data := strings.Repeat("a", 64+60)
	for stop := 1; stop <= 3; stop++ {
		count := 0
		for range chunks(data) {
			count++
			if count == stop {
				break
			}
		}
		if count != stop {
			t.Errorf("%d chunks, stopped at %d", count, stop)
		}
	}
}

// H1: lengths whose number of bits needs all 8 bytes are too long to lay out.
func TestWithLength(t *testing.T) {
	full := chunk{0: 'a', 55: 'b'}
	got := full.withLength(0x0123456789abcdef)
	want := full
	copy(want[56:], "\x01\x23\x45\x67\x89\xab\xcd\xef")
	if got != want {
		t.Errorf("withLength = %x, want %x", got, want)
	}
	if full != (chunk{0: 'a', 55: 'b'}) {
		t.Errorf("withLength changed its chunk: %x", full)
	}
}

// H1: sums of words are taken modulo 2^32, and a state is a value.
func TestPlus(t *testing.T) {
	low, high := state{1, 2, 3, 4, 5, 6, 7, 8}, state{0xffffffff, 0xfffffffe, 0, 0x80000000, 0xfffffffb, 1, 0xffffffff, 0xfffffff7}
	if got, want := low.plus(high), (state{0, 0, 3, 0x80000004, 0, 7, 6, 0xffffffff}); got != want {
		t.Errorf("plus = %x, want %x", got, want)
	}
	if low != (state{1, 2, 3, 4, 5, 6, 7, 8}) {
		t.Errorf("plus changed its state: %x", low)
	}
}
