package journal_test

import (
	"bytes"
	"math"
	"slices"
	"strings"
	"testing"

	"lagoon/api"
	"lagoon/store"
)

// turned is a sector with one byte turned, and the checksum as it was.
func turned(b []byte, at int) []byte {
	b = slices.Clone(b)
	b[at] ^= 0x40
	return b
}

// put is a sector with one byte replaced, and the checksum laid anew.
func put(b []byte, at int, x byte) []byte {
	b = slices.Clone(b)
	b[at] = x
	return summed(b)
}

// nameless are sectors that name nothing, in sector 0 as well as in sector 1; gen is one that would do there.
func nameless(gen int) map[string][]byte {
	head := headOf(gen, 1)
	g := uint32(gen)
	return map[string][]byte{
		"torn":                       nil,
		"zeros":                      make([]byte, 64),
		"ones":                       bytes.Repeat([]byte{0xff}, 64),
		"of the other kind":          headOf(gen+1, 1),
		"of generation 0":            headOf(0, 1),
		"above MaxGen":               headOf(maxGen+2-gen%2, 1),
		"just above MaxGen":          headOf(maxGen+1+gen%2, 1),
		"of the greatest generation": laid(math.MaxUint32-uint32(1-gen%2), 0, 0, 1, 1, "\x01"),
		"of a generation of 31 bits": laid(1<<31+g, 0, 0, 1, 1, "\x01"),
		"of number 1":                laid(g, 1, 0, 1, 1, "\x01"),
		"of number 256":              laid(g, 256, 0, 1, 1, "\x01"),
		"of number MaxGen":           laid(g, maxGen, 0, 1, 1, "\x01"),
		"of index 1":                 laid(g, 0, 1, 1, 1, "\x01"),
		"of index 1 of 2":            laid(g, 0, 1, 2, 1, "\x01"),
		"of index 0 of 2":            laid(g, 0, 0, 2, 1, "\x01"),
		"of index 0 of 2, whole":     laid(g, 0, 0, 2, 47, "\x01"),
		"of no parts":                laid(g, 0, 0, 0, 1, "\x01"),
		"of 255 parts":               laid(g, 0, 0, 255, 1, "\x01"),
		"of no bytes":                laid(g, 0, 0, 1, 0, ""),
		"of no bytes, one behind":    laid(g, 0, 0, 1, 0, "\x01"),
		"of two bytes":               laid(g, 0, 0, 1, 2, "\x01\x00"),
		"of 47 bytes":                laid(g, 0, 0, 1, 47, "\x01"),
		"of 255 bytes":               laid(g, 0, 0, 1, 255, "\x01"),
		"of area 2":                  headOf(gen, 2),
		"of area 255":                headOf(gen, 255),
		"of area '1'":                laid(g, 0, 0, 1, 1, "1"),
		"a byte behind":              laid(g, 0, 0, 1, 1, "\x01\x01"),
		"a byte far behind":          put(head, 57, 1),
		"a byte at 58":               put(head, 58, 1),
		"a byte at 59":               put(head, 59, 1),
		"the checksum's order":       append(slices.Clone(head[:60]), head[63], head[62], head[61], head[60]),
		"no checksum":                append(slices.Clone(head[:60]), 0, 0, 0, 0),
	}
}

// P5.1: heads that name nothing: alone, and beside one that names something.
func TestNameless(t *testing.T) {
	for at := range 2 {
		gen := 10 + at
		for what, b := range nameless(gen) {
			image := with(with(blank(need), 62, wholes(gen, "no")...), 2, wholes(1, "first")...)
			image[at] = b
			s := from(t, image)
			wantRecords(t, s, 1, "first")
			if t.Failed() {
				t.Fatalf("a head in sector %d: %s", at, what)
			}
			wantStill(t, s, with(image, 1, headOf(1, 0)), 1)
			other := 1 + at
			image = with(blank(need), 2, wholes(other, "yes")...)
			image[at] = b
			with(image, 1-at, headOf(other, 0))
			s = from(t, image)
			wantRecords(t, s, other, "yes")
			wantStill(t, s, image, 0)
			if t.Failed() {
				t.Fatalf("a head in sector %d, beside one that names something: %s", at, what)
			}
		}
	}
}

// P5.1: a head that is turned in any one byte names nothing.
func TestTurnedHead(t *testing.T) {
	for at := range 64 {
		image := with(blank(need), 1, headOf(1, 1))
		image[0] = turned(headOf(6, 0), at)
		wantRecords(t, from(t, image), 1)
	}
}

// P5.1: both heads name nothing, in each of the ways.
func TestBothNameless(t *testing.T) {
	even, odd := nameless(10), nameless(11)
	for what, b := range even {
		image := blank(need)
		image[0], image[1] = b, odd[what]
		s := from(t, image)
		wantRecords(t, s, 1)
		wantStill(t, s, with(image, 1, headOf(1, 0)), 1)
		if t.Failed() {
			t.Fatal(what)
		}
	}
}

// P5.1: a head that names a generation of which no record stands.
func TestHeadAlone(t *testing.T) {
	for area := range 2 {
		image := with(blank(need), 0, headOf(maxGen, area))
		s := from(t, image)
		wantRecords(t, s, maxGen)
		wantStill(t, s, image, 0)
	}
}

// inArea is a case of what stands in an area from its first sector on, in generation 5, and the records that it makes.
type inArea struct {
	what    string
	sectors [][]byte
	want    []string
}

// sectors is lists of sectors, one behind the other.
func sectors(l ...[][]byte) [][]byte {
	return slices.Concat(l...)
}

// one is a list of one sector.
func one(b []byte) [][]byte {
	return [][]byte{b}
}

// insides are rows of sectors, of records that stand and of such that don't.
func insides() []inArea {
	abc := wholes(5, "a", "b", "c")
	long := whole(5, 1, mixed(141, 1))
	a := whole(5, 0, "a")
	c := whole(5, 2, "c")
	full := mixed(47, 3)
	return []inArea{
		{"nothing", nil, nil},
		{"records", abc, []string{"a", "b", "c"}},
		{"records of many parts", wholes(5, mixed(1128, 1), "", mixed(48, 2), mixed(94, 3)), []string{mixed(1128, 1), "", mixed(48, 2), mixed(94, 3)}},
		{"a torn first sector", sectors(one(nil), abc[1:]), nil},
		{"a torn sector", sectors(abc[:1], one(nil), abc[2:]), []string{"a"}},
		{"a gap", sectors(abc[:1], blank(1), abc[1:]), []string{"a"}},
		{"a gap at the beginning", sectors(blank(1), abc), nil},
		{"another generation", sectors(a, whole(4, 1, "b"), c), []string{"a"}},
		{"a later generation", sectors(a, whole(6, 1, "b"), c), []string{"a"}},
		{"another generation's first", sectors(whole(3, 0, "a"), abc[1:]), nil},
		{"the number again", sectors(a, whole(5, 0, "b"), c), []string{"a"}},
		{"a number left out", sectors(a, c), []string{"a"}},
		{"a beginning at number 1", whole(5, 1, "b"), nil},
		{"index 1 alone", one(laid(5, 0, 1, 2, 1, "x")), nil},
		{"index 1 first", sectors(a, long[1:], c), []string{"a"}},
		{"many parts", sectors(a, long, c), []string{"a", mixed(141, 1), "c"}},
		{"the last part missing", sectors(a, long[:2], c), []string{"a"}},
		{"the last part torn", sectors(a, long[:2], one(nil), c), []string{"a"}},
		{"the last parts missing", sectors(a, long[:1], c), []string{"a"}},
		{"a middle part missing", sectors(a, long[:1], long[2:], c), []string{"a"}},
		{"a middle part torn", sectors(a, long[:1], one(nil), long[2:], c), []string{"a"}},
		{"the first part torn", sectors(a, one(nil), long[1:], c), []string{"a"}},
		{"a part twice", sectors(a, long[:2], long[1:], c), []string{"a"}},
		{"parts in another order", sectors(a, long[:1], one(long[2]), one(long[1]), c), []string{"a"}},
		{"a part of another generation", sectors(a, long[:1], one(laid(4, 1, 1, 3, 47, full)), long[2:], c), []string{"a"}},
		{"a part of another number", sectors(a, long[:1], one(laid(5, 2, 1, 3, 47, full)), long[2:], c), []string{"a"}},
		{"a part of another count, more", sectors(a, long[:1], one(laid(5, 1, 1, 4, 47, full)), long[2:], c), []string{"a"}},
		{"a part of another count, fewer", sectors(a, long[:1], one(laid(5, 1, 1, 2, 47, full)), long[2:], c), []string{"a"}},
		{"a last part of another count", sectors(a, long[:2], one(laid(5, 1, 2, 4, 47, full)), c), []string{"a"}},
		{"a part of another record", sectors(a, long[:1], one(laid(5, 1, 1, 3, 47, full)), long[2:], c), []string{"a", mixed(141, 1)[:47] + full + mixed(141, 1)[94:], "c"}},
		{"a first part that isn't whole", sectors(a, one(laid(5, 1, 0, 2, 46, mixed(46, 1))), one(laid(5, 1, 1, 2, 1, "x")), c), []string{"a"}},
		{"a last part without bytes", sectors(a, one(laid(5, 1, 0, 2, 47, full)), one(laid(5, 1, 1, 2, 0, "")), c), []string{"a"}},
		{"a last part of all bytes", sectors(a, one(laid(5, 1, 0, 2, 47, full)), one(laid(5, 1, 1, 2, 47, full)), c), []string{"a", full + full, "c"}},
		{"a last part of 48 bytes", sectors(a, one(laid(5, 1, 0, 2, 47, full)), one(laid(5, 1, 1, 2, 48, full)), c), []string{"a"}},
		{"a part of 255 bytes", sectors(a, one(laid(5, 1, 0, 1, 255, full)), c), []string{"a"}},
		{"no parts", sectors(a, one(laid(5, 1, 0, 0, 1, "x")), c), []string{"a"}},
		{"index 1 of 1", sectors(a, one(laid(5, 1, 1, 1, 1, "x")), c), []string{"a"}},
		{"a byte behind", sectors(a, one(put(laid(5, 1, 0, 1, 1, "x"), 12, 1)), c), []string{"a"}},
		{"a byte at 57", sectors(a, one(put(laid(5, 1, 0, 1, 46, mixed(46, 1)), 57, 1)), c), []string{"a"}},
		{"a byte at 58", sectors(a, one(put(laid(5, 1, 0, 1, 47, full), 58, 1)), c), []string{"a"}},
		{"a byte at 59", sectors(a, one(put(laid(5, 1, 0, 1, 47, full), 59, 1)), c), []string{"a"}},
		{"a byte behind none", sectors(a, one(laid(5, 1, 0, 1, 0, "x")), c), []string{"a"}},
		{"25 parts", manyParts(25), []string{"a"}},
		{"24 parts", manyParts(24), []string{"a", strings.Repeat(full, 24)}},
		{"zeros for bytes", wholes(5, "\x00", strings.Repeat("\x00", 47), strings.Repeat("\x00", 48)), []string{"\x00", strings.Repeat("\x00", 47), strings.Repeat("\x00", 48)}},
	}
}

// wantLike holds the records of a store against those that the plain journal reads, and these begin with. (Sectors that no journal has laid so may stand behind, and make more.)
func wantLike(t *testing.T, s *store.Store, first []string) {
	t.Helper()
	p, err := open(s)
	if err != api.OK || len(p.records) < len(first) || !slices.Equal(p.records[:len(first)], first) {
		t.Fatalf("the plain journal reads %q, %d; want at first %q", p.records, err, first)
	}
	wantRecords(t, s, p.gen, p.records...)
}

// manyParts is a record of so many whole parts behind one other.
func manyParts(n byte) [][]byte {
	l := whole(5, 0, "a")
	for i := range n {
		l = append(l, laid(5, 1, i, n, 47, mixed(47, 3)))
	}
	return l
}

// P5.1: which records of an area are read, in both areas, with and without sectors behind the areas.
func TestRecordsOfArea(t *testing.T) {
	for _, c := range insides() {
		for area := range 2 {
			for _, size := range []int{need, 200} {
				image := with(blank(size), 1, headOf(5, area))
				for i, b := range c.sectors {
					image[areaAt[area]+i] = b
				}
				s := from(t, image)
				j := wantRecords(t, s, 5, c.want...)
				wantStill(t, s, image, 0)
				appended(t, j, "more", mixed(94, 9))
				wantTold(t, j, 5, len(c.want)+2, 57-sectorsOf(c.want...))
				wantLike(t, s, append(slices.Clone(c.want), "more", mixed(94, 9)))
				if t.Failed() {
					t.Fatal(c.what)
				}
			}
		}
	}
}

// P5.1: a record that goes over the area's end doesn't stand, whatever is behind.
func TestOverTheEnd(t *testing.T) {
	for area := range 2 {
		for _, parts := range []int{2, 3, 24} {
			for inside := 1; inside <= parts; inside++ {
				image := with(blank(200), 1, headOf(5, area))
				before := slices.Repeat([]string{""}, 60-inside)
				with(image, areaAt[area], wholes(5, before...)...)
				last := mixed(47*parts, parts)
				with(image, areaAt[area]+60-inside, whole(5, len(before), last)...)
				want := before
				if inside == parts {
					want = append(want, last)
				}
				s := from(t, image)
				j := wantRecords(t, s, 5, want...)
				wantStill(t, s, image, 0)
				if inside < parts {
					wantErr(t, "Append without room", j.Append([]byte(last)), api.ErrSpace)
				}
			}
		}
	}
}

// P5.1: the area ends: no record of the sectors behind it is read, though it is the next.
func TestBehindTheEnd(t *testing.T) {
	for area := range 2 {
		image := with(blank(200), 1, headOf(5, area))
		with(image, areaAt[area], wholes(5, slices.Repeat([]string{"x"}, 62)...)...)
		s := from(t, image)
		wantRecords(t, s, 5, slices.Repeat([]string{"x"}, 60)...)
	}
}

// P5.1: a part's sector that is turned in any one byte ends the records.
func TestTurnedPart(t *testing.T) {
	for at := range 64 {
		image := with(with(blank(need), 1, headOf(5, 0)), 2, wholes(5, "a", mixed(100, 1), "c")...)
		image[4] = turned(image[4], at)
		wantRecords(t, from(t, image), 5, "a")
	}
}
