package cells_test

import (
	"bytes"
	"math"
	"slices"
	"testing"

	"lagoon/api"
)

// turned is a sector with one byte turned, and the checksum as it was.
func turned(b []byte, at int, by byte) []byte {
	b = slices.Clone(b)
	b[at] ^= by
	return b
}

// replaced is a sector with one byte replaced, and the checksum laid anew.
func replaced(b []byte, at int, x byte) []byte {
	b = slices.Clone(b)
	b[at] = x
	return summed(b)
}

// valueless is sectors in which no value's sector stands.
func valueless() map[string][]byte {
	good := valued(7, "good")
	return map[string][]byte{
		"torn":                         nil,
		"zeros":                        make([]byte, 64),
		"zeros, with their checksum":   summed(make([]byte, 64)),
		"ones":                         bytes.Repeat([]byte{0xff}, 64),
		"ones, with their checksum":    summed(bytes.Repeat([]byte{0xff}, 64)),
		"no checksum":                  append(slices.Clone(good[:60]), 0, 0, 0, 0),
		"the checksum's order":         append(slices.Clone(good[:60]), good[63], good[62], good[61], good[60]),
		"the checksum turned":          append(slices.Clone(good[:60]), ^good[60], ^good[61], ^good[62], ^good[63]),
		"another's checksum":           append(slices.Clone(good[:60]), valued(8, "good")[60:]...),
		"the checksum first":           append(slices.Clone(good[60:]), good[:60]...),
		"number 0":                     laid(0, 0, 4, "zero"),
		"number 0, no text":            laid(0, 0, 0, ""),
		"number 0, a whole text":       laid(0, 0, 51, mixed(51, 1)),
		"number MaxCount + 1":          laid(1, 256, 1, "x"),
		"number MaxCount + 7":          laid(7, 256, 1, "x"),
		"the number's 42nd bit":        laid(7, 512, 1, "x"),
		"a number above":               laid(7, 257, 1, "x"),
		"the number's 42nd bit, alone": laid(0, 512, 1, "x"),
		"the number's 63rd bit":        laid(7, 1<<30, 1, "x"),
		"the number's last bit":        laid(7, 1<<31, 1, "x"),
		"the number's last bit, alone": laid(0, 1<<31, 1, "x"),
		"the greatest number":          laid(math.MaxUint32, math.MaxUint32, 1, "x"),
		"higher ones all":              laid(0, math.MaxUint32, 1, "x"),
		"length 52":                    laid(7, 0, 52, mixed(51, 1)),
		"length 53":                    laid(7, 0, 53, "x"),
		"length 56":                    laid(7, 0, 56, ""),
		"length 128":                   laid(7, 0, 128, "x"),
		"length 255":                   laid(7, 0, 255, "x"),
		"a byte behind no text":        laid(7, 0, 0, "x"),
		"a byte just behind":           laid(7, 0, 4, "goodx"),
		"a space behind":               laid(7, 0, 4, "good "),
		"a byte further behind":        laid(7, 0, 4, "good\x00x"),
		"a byte at the end":            replaced(good, 59, 1),
		"a byte behind 50":             laid(7, 0, 50, mixed(51, 1)),
		"a text behind zeros":          laid(7, 0, 3, "\x00\x00\x00\x01"),
		"laid one byte further":        summed(append([]byte{0}, good[:63]...)),
	}
}

// P6.1, P6.3: a cell in whose sectors no value's sector stands is empty: the first value goes into its first sector.
func TestValueless(t *testing.T) {
	for what, b := range valueless() {
		for other, d := range map[string][]byte{"zeros": make([]byte, 64), "the same": b, "torn": nil} {
			for at := range 2 {
				image := with(blank(6), 2+at, b)
				image = with(image, 3-at, d)
				s := from(t, image)
				c := wantOpened(t, s, none, none, none)
				wantStill(t, s, image, 0)
				put(t, c, 1, "new")
				wantStill(t, s, with(image, 2, valued(1, "new")), 1)
				put(t, c, 1, "newer")
				wantStill(t, s, with(image, 2, valued(1, "new"), valued(2, "newer")), 2)
				wantOpened(t, s, none, api.Cell{Seq: 2, Data: "newer"}, none)
				if t.Failed() {
					t.Fatalf("%s in sector %d, beside %s", what, at, other)
				}
			}
		}
	}
}

// P6.1: the number's bytes count from the lowest on, the lower 32 bits first.
func TestNumbersBytes(t *testing.T) {
	for at := range 5 {
		b := replaced(valued(1, "x"), 0, 0)
		b = replaced(b, at, 1)
		want := 1 << (8 * at)
		wantOpened(t, from(t, [][]byte{b, make([]byte, 64)}), api.Cell{Seq: want, Data: "x"})
	}
	for _, x := range []struct {
		lower, higher uint32
		want          int
	}{{0x04030201, 0x05, 0x0504030201}, {0xffffffff, 0, 0xffffffff}, {0, 1, 1 << 32}, {0xffffffff, 255, maxCount - 1}, {0, 256, maxCount}, {0x80000000, 0x80, 0x8080000000}} {
		wantOpened(t, from(t, [][]byte{make([]byte, 64), laid(x.lower, x.higher, 1, "x")}), api.Cell{Seq: x.want, Data: "x"})
	}
}

// P6.1, P6.3: one of a cell's sectors has a value, the other none: that counts, and the next goes into the other.
func TestOneValue(t *testing.T) {
	for what, b := range valueless() {
		for at := range 2 {
			for _, v := range []api.Cell{{Seq: 1, Data: ""}, {Seq: 1, Data: "x"}, {Seq: 7, Data: "good"}, {Seq: maxCount - 1, Data: mixed(51, 3)}} {
				image := with(blank(2), at, valued(v.Seq, v.Data))
				image = with(image, 1-at, b)
				s := from(t, image)
				c := wantOpened(t, s, v)
				wantStill(t, s, image, 0)
				put(t, c, 0, "next")
				wantStill(t, s, with(image, 1-at, valued(v.Seq+1, "next")), 1)
				put(t, opened(t, from(t, image), 1), 0, "next")
				if t.Failed() {
					t.Fatalf("%s in sector %d, beside the value %d", what, 1-at, v.Seq)
				}
			}
		}
	}
}

// P6.1, P6.3: both of a cell's sectors have a value: the one with the greater number counts, of two alike the first sector's; the next goes into the other.
func TestTwoValues(t *testing.T) {
	for _, x := range []struct {
		first, second int
		texts         [2]string
		want          int // which counts
	}{
		{1, 2, [2]string{"a", "b"}, 1},
		{2, 1, [2]string{"a", "b"}, 0},
		{1, 2, [2]string{"a", "a"}, 1},
		{2, 1, [2]string{"a", "a"}, 0},
		{1, 2, [2]string{"", ""}, 1},
		{2, 1, [2]string{"", ""}, 0},
		{2, 1, [2]string{"a", "z"}, 0},
		{1, 2, [2]string{"z", "a"}, 1},
		{1, 9999, [2]string{"a", "b"}, 1},
		{9999, 1, [2]string{"a", "b"}, 0},
		{255, 256, [2]string{"a", "b"}, 1},
		{256, 255, [2]string{"a", "b"}, 0},
		{1<<32 - 1, 1 << 32, [2]string{"a", "b"}, 1},
		{1 << 32, 1<<32 - 1, [2]string{"a", "b"}, 0},
		{1<<32 + 1, 2, [2]string{"a", "b"}, 0},
		{2, 1<<32 + 1, [2]string{"a", "b"}, 1},
		{1<<33 + 1, 1<<32 + 2, [2]string{"a", "b"}, 0},
		{maxCount - 1, 1, [2]string{"a", "b"}, 0},
		{1, maxCount - 1, [2]string{"a", "b"}, 1},
		{1<<31 + 5, 5, [2]string{"a", "b"}, 0},
		{5, 5, [2]string{"a", "b"}, 0},
		{5, 5, [2]string{"b", "a"}, 0},
		{5, 5, [2]string{"same", "same"}, 0},
		{5, 5, [2]string{"", "a"}, 0},
		{5, 5, [2]string{"a", ""}, 0},
		{5, 5, [2]string{"", ""}, 0},
		{1, 1, [2]string{"", ""}, 0},
		{1, 1, [2]string{mixed(51, 1), mixed(51, 2)}, 0},
		{maxCount - 1, maxCount - 1, [2]string{"a", "b"}, 0},
	} {
		image := [][]byte{make([]byte, 64), make([]byte, 64), valued(x.first, x.texts[0]), valued(x.second, x.texts[1])}
		s := from(t, image)
		v := api.Cell{Seq: max(x.first, x.second), Data: x.texts[x.want]}
		c := wantOpened(t, s, none, v)
		wantStill(t, s, image, 0)
		put(t, c, 1, "next")
		image = with(image, 3-x.want, valued(v.Seq+1, "next"))
		wantStill(t, s, image, 1)
		if v.Seq+2 <= maxCount {
			put(t, c, 1, v.Data)
			wantStill(t, s, with(image, 2+x.want, valued(v.Seq+2, v.Data)), 2)
		}
		if t.Failed() {
			t.Fatalf("the numbers %d, %d", x.first, x.second)
		}
	}
}

// P6.1: a cell of the number MaxCount in one of its sectors, or in both.
func TestTwoWorn(t *testing.T) {
	for _, image := range [][][]byte{
		{valued(maxCount, "a"), valued(maxCount, "b")},
		{valued(maxCount, "a"), valued(maxCount, "a")},
		{valued(maxCount, "a"), valued(maxCount-1, "b")},
		{valued(maxCount-1, "b"), valued(maxCount, "a")},
		{nil, valued(maxCount, "a")},
		{laid(1, 256, 1, "x"), valued(maxCount, "a")},
	} {
		s := from(t, image)
		c := wantOpened(t, s, api.Cell{Seq: maxCount, Data: "a"})
		wantErr(t, "Put into a worn cell", c.Put(0, "x"), errWorn)
		wantStill(t, s, image, 0)
	}
}

// P6.1: a value's sector of which any one byte is turned is none, whichever it is and however it is turned.
func TestTurned(t *testing.T) {
	for at := range 64 {
		for _, by := range []byte{0x01, 0x40, 0x80, 0xff} {
			b := turned(valued(6, "new"), at, by)
			wantOpened(t, from(t, [][]byte{valued(5, "old"), b}), api.Cell{Seq: 5, Data: "old"})
			wantOpened(t, from(t, [][]byte{b, valued(5, "old")}), api.Cell{Seq: 5, Data: "old"})
			wantOpened(t, from(t, [][]byte{b, b}), none)
		}
	}
}

// P6.1: each byte behind a text has to be 0, of texts of every length.
func TestZerosBehind(t *testing.T) {
	for size := range 52 {
		good := valued(5, mixed(size, size))
		wantOpened(t, from(t, [][]byte{make([]byte, 64), good}), api.Cell{Seq: 5, Data: mixed(size, size)})
		for at := 9 + size; at < 60; at++ {
			for _, x := range []byte{1, ' ', 0x80, 0xff} {
				wantOpened(t, from(t, [][]byte{valued(4, "old"), replaced(good, at, x)}), api.Cell{Seq: 4, Data: "old"})
			}
		}
	}
}

// P6.1: the length byte alone tells how long a text is, up to 51; zeros that it has aren't cut off.
func TestLengths(t *testing.T) {
	for size := range 256 {
		text := make([]byte, min(size, 51))
		want := api.Cell{Seq: 9, Data: string(text)}
		if size > 51 {
			want = none
		}
		wantOpened(t, from(t, [][]byte{laid(9, 0, byte(size), ""), nil}), want)
	}
}

// P6.1: cell i has the sectors 2i and 2i + 1, and none of its neighbours'.
func TestNeighbours(t *testing.T) {
	image := [][]byte{valued(1, "a"), valued(9, "b"), valued(8, "c"), valued(2, "d"), nil, make([]byte, 64), valued(7, "behind"), valued(6, "behind")}
	s := from(t, image)
	c := wantOpened(t, s, api.Cell{Seq: 9, Data: "b"}, api.Cell{Seq: 8, Data: "c"}, none)
	put(t, c, 1, "e")
	put(t, c, 2, "f")
	put(t, c, 0, "g")
	wantStill(t, s, [][]byte{valued(10, "g"), valued(9, "b"), valued(8, "c"), valued(9, "e"), valued(1, "f"), make([]byte, 64), valued(7, "behind"), valued(6, "behind")}, 3)
}
