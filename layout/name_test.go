package layout_test

import (
	"strings"
	"testing"

	"lagoon/layout"
)

// letters are all bytes that a name may have.
const letters = "abcdefghijklmnopqrstuvwxyz0123456789."

// wantName holds Name against what it should answer, and against the plain one.
func wantName(t *testing.T, s string, want bool) {
	t.Helper()
	if got := layout.Name(s); got != want || plainName(s) != want {
		t.Errorf("Name(%q): %v, the plain one %v; want %v", s, got, plainName(s), want)
	}
}

// The words: a name is 1 to 6 bytes from a to z, 0 to 9 and the dot: lengths.
func TestNameLengths(t *testing.T) {
	for s, want := range map[string]bool{
		"": false, "a": true, "z": true, "0": true, "9": true, ".": true, "ab": true, "a.1": true, "...": true, "..": true, "000": true, "abcdef": true, "......": true, "a1.b2.": true,
		"abcdefg": false, "abcdefgh": false, ".......": false, "A": false, "aA": false, "Ab": false, "a b": false, " a": false, "a ": false, "a/b": false, "/": false, "-": false, "_": false, "a\x00": false, "\x00": false, "é": false, "aé": false, "ａ": false,
		"a\n": false, "abcde\n": false, "abcdef\n": false,
	} {
		wantName(t, s, want)
	}
	for n := range 300 {
		wantName(t, strings.Repeat("a", n), n >= 1 && n <= 6)
	}
	for _, n := range []int{1 << 8, 1<<8 + 1, 1<<16 + 3, 1 << 20, 1<<24 + 6} {
		wantName(t, strings.Repeat("a", n), false)
	}
}

// The words: each byte, alone, behind a good one, ahead of one, and at each place of a name.
func TestNameBytes(t *testing.T) {
	for x := range 256 {
		one := string([]byte{byte(x)})
		want := strings.Contains(letters, one)
		wantName(t, one, want)
		wantName(t, "a"+one, want)
		wantName(t, one+"a", want)
		wantName(t, "abcdef"+one, false)
		for length := 1; length <= 6; length++ {
			for i := range length {
				s := strings.Repeat("q", i) + one + strings.Repeat(".", length-1-i)
				wantName(t, s, want)
			}
		}
	}
}

// The words: a data block is 32 to 79.
func TestData(t *testing.T) {
	for n := -300; n <= 600; n++ {
		if got := layout.Data(n); got != isData(n) {
			t.Errorf("Data(%d): %v", n, got)
		}
	}
	for _, n := range farOff() {
		if layout.Data(n) {
			t.Errorf("Data(%d): true", n)
		}
	}
	for n, want := range map[int]bool{-1: false, 0: false, 31: false, 32: true, 55: true, 56: true, 79: true, 80: false, 127: false, 128: false} {
		if got := layout.Data(n); got != want {
			t.Errorf("Data(%d): %v; want %v", n, got, want)
		}
	}
}
