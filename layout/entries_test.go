package layout_test

import (
	"fmt"
	"slices"
	"strings"
	"testing"

	"lagoon/api"
	"lagoon/layout"
)

// entriesOf are entries of names, with the inodes 1, 2 and on.
func entriesOf(names ...string) []api.Entry {
	var l []api.Entry
	for i, name := range names {
		l = append(l, api.Entry{Name: name, Ino: i + 1})
	}
	return l
}

// laidEntries is the bytes of entries, whatever these are; a number below 0 has no form, and counts as 0.
func laidEntries(l []api.Entry) string {
	s := ""
	for _, e := range l {
		s += form(len(e.Name)) + e.Name + form(max(e.Ino, 0))
	}
	return s
}

// P14.1, P14.2: entries and their bytes, written down; no bytes are no entries.
func TestEntriesRows(t *testing.T) {
	for s, l := range map[string][]api.Entry{
		"":                                  nil,
		"\x01a\x00":                         {{Name: "a"}},
		"\x01a\x03\x01b\x04":                {{Name: "a", Ino: 3}, {Name: "b", Ino: 4}},
		"\x01.\x0f\x010\x0e\x01z\x00":       {{Name: ".", Ino: 15}, {Name: "0", Ino: 14}, {Name: "z"}},
		"\x06abcdef\x0f":                    {{Name: "abcdef", Ino: 15}},
		"\x01a\x01\x02aa\x01\x03aaa\x01":    {{Name: "a", Ino: 1}, {Name: "aa", Ino: 1}, {Name: "aaa", Ino: 1}},
		"\x02a.\x01\x02a0\x02\x02aa\x03":    {{Name: "a.", Ino: 1}, {Name: "a0", Ino: 2}, {Name: "aa", Ino: 3}},
		"\x06aaaaaa\x01\x01b\x01":           {{Name: "aaaaaa", Ino: 1}, {Name: "b", Ino: 1}},
		"\x06zzzzzy\x02\x06zzzzzz\x01":      {{Name: "zzzzzy", Ino: 2}, {Name: "zzzzzz", Ino: 1}},
		"\x01.\x01\x02..\x02\x06......\x03": {{Name: ".", Ino: 1}, {Name: "..", Ino: 2}, {Name: "......", Ino: 3}},
	} {
		directories().wantBytes(t, l, s)
	}
	directories().wantBytes(t, []api.Entry{}, "")
}

// eight are as many entries as a directory may have.
func eight() []api.Entry {
	return entriesOf("0", "1", "a", "aa", "ab", "b.c", "zz", "zzzzzz")
}

// P14.1, P14.2: how many entries there may be.
func TestEntriesCount(t *testing.T) {
	all := append(eight(), api.Entry{Name: "zzzzzz.", Ino: 1})
	all[8].Name = "zzzzzz"
	all[7].Name = "zzzzz"
	for n := range 10 {
		directories().wantEither(t, all[:n], n <= 8)
	}
	directories().wantForm(t, "nine", laidEntries(all))
	var many []api.Entry
	for i := range 300 {
		many = append(many, api.Entry{Name: fmt.Sprintf("n%03d", i), Ino: i % 16})
	}
	for _, n := range []int{8, 9, 10, 15, 16, 17, 255, 256, 264, 300} {
		directories().wantEither(t, many[:n], n <= 8)
		if n > 8 {
			directories().wantForm(t, "many", laidEntries(many[:n]))
		}
	}
	directories().wantRange(t, make([]api.Entry, 1<<20))
	directories().wantForm(t, "very many", strings.Repeat("\x01a\x01", 1<<18))
}

// P14.1, P14.2: names that don't rise.
func TestEntriesRise(t *testing.T) {
	for _, names := range []string{"b a", "a a", "aa a", "a .", "a 0", "0 .", "b aaaaaa", "ab aa", "zzzzzz zzzzzy", "a b b", "a c b", "b c a", "c a b", "b a c", "a b a", "a b c d e f g g", "a a b c d e f g", "a b c d e f h g", "b a c d e f g h", "... .."} {
		l := entriesOf(strings.Fields(names)...)
		directories().wantRange(t, l)
		directories().wantForm(t, names, laidEntries(l))
	}
	for i := range 7 {
		l := eight()
		l[i], l[i+1] = l[i+1], l[i]
		directories().wantRange(t, l)
		directories().wantForm(t, "two for each other", laidEntries(l))
		l[i] = l[i+1]
		directories().wantRange(t, l)
		directories().wantForm(t, "twice", laidEntries(l))
	}
}

// P14.1, P14.2: names that are none, at each place.
func TestEntriesNames(t *testing.T) {
	for _, name := range []string{"", "A", "a-", "a\x00", "\x00", "abcdefg", "zzzzzza", "aaaaaaa", " ", "{", "~", "\xff", "zzz{", "a\x80", strings.Repeat("z", 127), strings.Repeat("z", 128), strings.Repeat("a", 1<<16)} {
		for _, others := range [][]string{{}, {"zz"}, {"."}, {".", "zz"}} {
			l := entriesOf(append(others, name)...)
			slices.SortFunc(l, func(x, y api.Entry) int { return strings.Compare(x.Name, y.Name) })
			directories().wantRange(t, l)
			directories().wantForm(t, name[:min(len(name), 9)], laidEntries(l))
		}
	}
	for x := range 256 {
		name := string([]byte{byte(x)})
		l := []api.Entry{{Name: name, Ino: 2}}
		directories().wantEither(t, l, strings.Contains(letters, name))
		directories().wantPlain(t, laidEntries(l))
	}
}

// P14.1, P14.2: numbers of inodes, at each place.
func TestEntriesIno(t *testing.T) {
	for i := range 8 {
		for _, n := range append(farOff(), -16, -1, 0, 1, 7, 8, 14, 15, 16, 17, 31, 127, 128, 143, 256) {
			l := eight()
			l[i].Ino = n
			directories().wantEither(t, l, within(n, 0, 15))
			directories().wantEither(t, l[i:i+1], within(n, 0, 15))
			if n > 15 {
				directories().wantForm(t, fmt.Sprint("inode ", n), laidEntries(l))
				directories().wantForm(t, fmt.Sprint("inode ", n), laidEntries(l[i:i+1]))
			}
		}
	}
}

// P14.2, P14.4: bytes that are cut, have more behind, or a number in a longer form.
func TestEntriesForm(t *testing.T) {
	for _, l := range [][]api.Entry{nil, entriesOf("a"), entriesOf("a", "b"), eight(), entriesOf("aaaaa1", "aaaaa2", "aaaaa3", "aaaaa4", "aaaaa5", "aaaaa6", "aaaaa7", "aaaaa8")} {
		s, err := layout.EncodeEntries(l)
		if err != ok {
			t.Fatalf("EncodeEntries(%v): %d", l, err)
		}
		whole := map[int]int{0: 0} // where an entry ends, and how many there are then
		for i, e := range l {
			end := len(laidEntries(l[:i+1]))
			whole[end] = i + 1
			at := len(laidEntries(l[:i]))
			directories().wantForm(t, "a longer length", s[:at]+longer(len(e.Name))+s[at+1:])
			directories().wantForm(t, "a longer inode", s[:end-1]+longer(e.Ino)+s[end:])
			directories().wantForm(t, "a length of 0", s[:at]+"\x00"+s[at+1:])
			directories().wantForm(t, "a great length", s[:at]+form(1<<62)+s[at+1:])
			directories().wantForm(t, "the greatest length", s[:at]+form(1<<63-1)+s[at+1:])
			directories().wantForm(t, "a great inode", s[:end-1]+form(1<<32+1)+s[end:])
		}
		for i := range s {
			if n, is := whole[i]; is {
				directories().wantThing(t, s[:i], l[:n])
			} else {
				directories().wantForm(t, "cut", s[:i])
			}
		}
		for _, more := range []string{"\x00", "\x01", "\x06", "\x80", "\xff", "z"} {
			directories().wantForm(t, "more behind", s+more)
		}
		directories().wantSpoilt(t, s)
	}
}
