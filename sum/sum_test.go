package sum_test

import (
	"crypto/sha256"
	"encoding/hex"
	"strings"
	"testing"

	"pantry/api"
	"pantry/sum"
)

// allBytes has every value of a byte once, in their order.
func allBytes() string {
	b := make([]byte, 256)
	for i := range b {
		b[i] = byte(i)
	}
	return string(b)
}

// mixed tells n bytes of all values that no period of 64 or 256 is in.
func mixed(n int) string {
	b := make([]byte, n)
	x := uint32(n) + 1
	for i := range b {
		x = x*1664525 + 1013904223
		b[i] = byte(x >> 24)
	}
	return string(b)
}

func wantSum(data string) string {
	s := sha256.Sum256([]byte(data))
	return string(s[:])
}

// H1: sums that are known by themselves, not by another program's answer.
func TestSumKnown(t *testing.T) {
	for _, c := range []struct{ data, want string }{
		{"", "e3b0c44298fc1c149afbf4c8996fb92427ae41e4649b934ca495991b7852b855"},
		{"abc", "ba7816bf8f01cfea414140de5dae2223b00361a396177a9cb410ff61f20015ad"},
		{"abcdbcdecdefdefgefghfghighijhijkijkljklmklmnlmnomnopnopq", "248d6a61d20638b8e5c026930c3e6039a33ce45964ff2167f6ecedd419db06c1"},
		{"abcdefghbcdefghicdefghijdefghijkefghijklfghijklmghijklmnhijklmnoijklmnopjklmnopqklmnopqrlmnopqrsmnopqrstnopqrstu", "cf5b16a778af8380036ce59e7b0492370b249b11e8f07a51afac45037afee9d1"},
		{strings.Repeat("a", 1000000), "cdc76e5c9914fb9281a1c7e284d73e67f1809a48a497200e046d39ccc7112cd0"},
	} {
		if got := hex.EncodeToString([]byte(sum.Sum(c.data))); got != c.want {
			t.Errorf("Sum of %d bytes = %s, want %s", len(c.data), got, c.want)
		}
	}
}

// H1: every length up to some chunks has each edge (55, 56, 63, 64, 119, 120
// and their like) and its neighbours in it.
func TestSumLengths(t *testing.T) {
	for n := range 64*9 + 1 {
		for _, data := range []string{mixed(n), strings.Repeat("\x00", n), strings.Repeat("\xff", n)} {
			if got := sum.Sum(data); got != wantSum(data) {
				t.Errorf("Sum(%q) = %x, want %x", data, got, wantSum(data))
			}
		}
	}
}

// H1: the edges again where the length takes a further byte.
func TestSumLongLengths(t *testing.T) {
	for _, about := range []int{1 << 13, 1 << 21} {
		data := mixed(about + 64)
		for _, more := range []int{-64, -10, -9, -8, -2, -1, 0, 1, 2, 54, 55, 56, 57, 62, 63, 64} {
			cut := data[:about+more]
			if got := sum.Sum(cut); got != wantSum(cut) {
				t.Errorf("Sum of %d bytes = %x, want %x", len(cut), got, wantSum(cut))
			}
		}
	}
}

// H1: each byte's value, and each place in a chunk, counts.
func TestSumBytes(t *testing.T) {
	seen := map[string]int{}
	for i := range 256 {
		data := string([]byte{byte(i)})
		got := sum.Sum(data)
		if got != wantSum(data) {
			t.Errorf("Sum(%q) = %x, want %x", data, got, wantSum(data))
		}
		seen[got]++
	}
	for i := range 128 {
		data := strings.Repeat("\x00", i) + "\x80" + strings.Repeat("\x00", 127-i)
		got := sum.Sum(data)
		if got != wantSum(data) {
			t.Errorf("Sum(%q) = %x, want %x", data, got, wantSum(data))
		}
		seen[got]++
	}
	if len(seen) != 256+128 {
		t.Errorf("%d sums of %d texts", len(seen), 256+128)
	}
}

// H2.
func TestHex(t *testing.T) {
	for _, c := range []struct{ data, want string }{
		{"", ""},
		{"\x00", "00"},
		{"\x0f", "0f"},
		{"\xf0", "f0"},
		{"\x9a", "9a"},
		{"\x00\xff\x00", "00ff00"},
		{"\x01\x23\x45\x67\x89\xab\xcd\xef", "0123456789abcdef"},
		{"pantry", "70616e747279"},
		{"\u00e9", "c3a9"},
	} {
		if got := sum.Hex(c.data); got != c.want {
			t.Errorf("Hex(%q) = %q, want %q", c.data, got, c.want)
		}
	}
	if got, want := sum.Hex(allBytes()), hex.EncodeToString([]byte(allBytes())); got != want {
		t.Errorf("Hex of all bytes = %q, want %q", got, want)
	}
}

// H3.
func TestBytes(t *testing.T) {
	for _, c := range []struct {
		hex, want string
		err       api.Errno
		at        int
	}{
		{"", "", api.OK, 0},
		{"00", "\x00", api.OK, 0},
		{"0f", "\x0f", api.OK, 0},
		{"f0", "\xf0", api.OK, 0},
		{"00ff00", "\x00\xff\x00", api.OK, 0},
		{"0123456789abcdef", "\x01\x23\x45\x67\x89\xab\xcd\xef", api.OK, 0},
		{"a", "", api.ErrText, 1},
		{"abc", "", api.ErrText, 3},
		{"00000", "", api.ErrText, 5},
		{"A0", "", api.ErrText, 0},
		{"0A", "", api.ErrText, 1},
		{"00FF", "", api.ErrText, 2},
		{"0g", "", api.ErrText, 1},
		{"gg", "", api.ErrText, 0},
		{" 00", "", api.ErrText, 0},
		{"00 ", "", api.ErrText, 2},
		{"0x00", "", api.ErrText, 1},
		{"00\n", "", api.ErrText, 2},
		{"\u0660\u0660", "", api.ErrText, 0},
		{"00\xff", "", api.ErrText, 2},
		{"g", "", api.ErrText, 0},
		{"00g", "", api.ErrText, 2},
		{"0g000", "", api.ErrText, 1},
		{"0g0h0", "", api.ErrText, 1},
	} {
		got, err, at := sum.Bytes(c.hex)
		if got != c.want || err != c.err || at != c.at {
			t.Errorf("Bytes(%q) = %q %d %d, want %q %d %d", c.hex, got, err, at, c.want, c.err, c.at)
		}
	}
}

// H3: of each byte whether it is a sign, at an even place, an odd one, and
// one behind which nothing stands.
func TestBytesSigns(t *testing.T) {
	for i := range 256 {
		sign := string([]byte{byte(i)})
		value := strings.Index("0123456789abcdef", sign)
		first, err1, at1 := sum.Bytes(sign + "0")
		second, err2, at2 := sum.Bytes("0" + sign)
		_, err3, at3 := sum.Bytes("00" + sign)
		if value < 0 {
			if first+second != "" || err1 != api.ErrText || err2 != api.ErrText || err3 != api.ErrText || at1 != 0 || at2 != 1 || at3 != 2 {
				t.Errorf("%q is taken as a sign, or refused at a wrong place: %d %d %d", sign, at1, at2, at3)
			}
			continue
		}
		if first != string([]byte{byte(value << 4)}) || second != string([]byte{byte(value)}) || err1 != api.OK || err2 != api.OK || at1 != 0 || at2 != 0 {
			t.Errorf("%q is read as %q and %q, %d %d", sign, first, second, err1, err2)
		}
		if err3 != api.ErrText || at3 != 3 {
			t.Errorf("three signs: %d %d", err3, at3)
		}
	}
}

// H2 and H3: what the one writes, the other reads, at all lengths.
func TestBytesOfHex(t *testing.T) {
	for n := range 300 {
		data := mixed(n)
		if got, err, at := sum.Bytes(sum.Hex(data)); got != data || err != api.OK || at != 0 {
			t.Errorf("Bytes(Hex(%q)) = %q %d %d", data, got, err, at)
		}
	}
	if got, err, at := sum.Bytes(sum.Hex(allBytes())); got != allBytes() || err != api.OK || at != 0 {
		t.Errorf("Bytes(Hex(all bytes)) = %q %d %d", got, err, at)
	}
}

// H4.
func TestDigest(t *testing.T) {
	if got, want := sum.Digest("abc"), "sha256:ba7816bf8f01cfea414140de5dae2223b00361a396177a9cb410ff61f20015ad"; got != want {
		t.Errorf("Digest(abc) = %s, want %s", got, want)
	}
	for n := range 130 {
		data := mixed(n)
		want := "sha256:" + hex.EncodeToString([]byte(wantSum(data)))
		if got := sum.Digest(data); got != want {
			t.Errorf("Digest(%q) = %s, want %s", data, got, want)
		}
		if !sum.Check(want) {
			t.Errorf("Check(%q) = false", want)
		}
	}
}

// H4.
func TestCheck(t *testing.T) {
	signs := strings.Repeat("0123456789abcdef", 4)
	for _, c := range []struct {
		digest string
		want   bool
	}{
		{"sha256:" + signs, true},
		{"sha256:" + strings.Repeat("0", 64), true},
		{"sha256:" + strings.Repeat("f", 64), true},
		{"", false},
		{"sha256", false},
		{"sha256:", false},
		{signs, false},
		{":" + signs, false},
		{"sha256:" + signs[1:], false},
		{"sha256:" + signs[2:], false},
		{"sha256:" + signs + "0", false},
		{"sha256:" + signs + "00", false},
		{"sha256:" + signs + "\n", false},
		{" sha256:" + signs, false},
		{"sha256: " + signs[1:], false},
		{"sha256:sha256:" + signs, false},
		{"sha256:sha256:" + signs[7:], false},
		{"SHA256:" + signs, false},
		{"Sha256:" + signs, false},
		{"sha512:" + signs, false},
		{"sha256-" + signs, false},
		{"sha256" + signs, false},
		{"sha2560" + signs, false},
		{"sha256:" + strings.ToUpper(signs), false},
	} {
		if got := sum.Check(c.digest); got != c.want {
			t.Errorf("Check(%q) = %t", c.digest, got)
		}
	}
}

// H4: of each byte, at the first, an inner and the last sign.
func TestCheckSigns(t *testing.T) {
	signs := strings.Repeat("a", 64)
	for i := range 256 {
		sign := string([]byte{byte(i)})
		want := strings.Contains("0123456789abcdef", sign)
		for _, at := range []int{0, 31, 63} {
			digest := "sha256:" + signs[:at] + sign + signs[at+1:]
			if got := sum.Check(digest); got != want {
				t.Errorf("Check(%q) = %t", digest, got)
			}
		}
	}
}

// H4: one byte changed or taken away in the beginning.
func TestCheckHead(t *testing.T) {
	digest := "sha256:" + strings.Repeat("0", 64)
	for i := range len("sha256:") {
		changed := digest[:i] + "~" + digest[i+1:]
		shorter := digest[:i] + digest[i+1:]
		if sum.Check(changed) || sum.Check(shorter) || sum.Check(shorter+"0") {
			t.Errorf("a digest with another beginning is taken: %q", changed)
		}
	}
}
