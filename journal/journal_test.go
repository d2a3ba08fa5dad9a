package journal_test

import (
	"bytes"
	"math"
	"slices"
	"strings"
	"testing"

	"lagoon/api"
	"lagoon/journal"
	"lagoon/store"
)

// lengths are those of records at the edges, and others.
var lengths = []int{0, 1, 2, 46, 47, 48, 93, 94, 95, 100, 141, 500, 1080, 1081, 1082, 1127, 1128}

// wantNoJournal wants Open to answer an error, no journal and no records.
func wantNoJournal(t *testing.T, s *store.Store, want api.Errno) {
	t.Helper()
	if j, l, err := journal.Open(s); j != nil || len(l) != 0 || err != want {
		t.Errorf("Open: %v, %q, %d; want nil, none, %d", j, l, err, want)
	}
}

// The chapter's examples.
func TestExamples(t *testing.T) {
	s := from(t, blank(122))
	j, l, err := journal.Open(s)
	if err != api.OK || len(l) != 0 || s.Writes() != 1 {
		t.Fatalf("Open of a new store: %q, %d, %d writes", l, err, s.Writes())
	}
	wantTold(t, j, 1, 0, 60)
	wantErr(t, "Append", j.Append([]byte("ab")), api.OK)
	wantTold(t, j, 1, 1, 59)
	wantErr(t, "Append", j.Append(make([]byte, 100)), api.OK)
	wantTold(t, j, 1, 2, 56)
	if s.Writes() != 5 {
		t.Errorf("%d writes; want 5", s.Writes())
	}
	wantErr(t, "Rewrite", j.Rewrite(lists("x", "y")), api.OK)
	wantTold(t, j, 2, 2, 58)
	wantErr(t, "Append of 1129 bytes", j.Append(make([]byte, 1129)), 2)
	wantTold(t, j, 2, 2, 58)
	wantRecords(t, s, 2, "x", "y")
}

// P5.1: how many sectors a journal needs.
func TestNeed(t *testing.T) {
	if journal.Need != 122 {
		t.Errorf("Need: %d", journal.Need)
	}
}

// P5.1: what Open refuses, in the order of the errors (R2), and that it then writes nothing (R4).
func TestOpenRefused(t *testing.T) {
	wantNoJournal(t, nil, 1)
	wantNoJournal(t, &store.Store{}, api.ErrSpace)
	for _, n := range []int{1, 2, 61, 62, 120, 121} {
		s := from(t, blank(n))
		wantNoJournal(t, s, 12)
		s.Fail()
		wantNoJournal(t, s, api.ErrSpace)
		s.Revive(0, false)
		wantStill(t, s, blank(n), 0)
	}
	for _, n := range []int{122, 123, 512} {
		s := from(t, blank(n))
		s.Fail()
		wantNoJournal(t, s, 13)
		s.Revive(0, false)
		wantStill(t, s, blank(n), 0)
		wantRecords(t, s, 1)
	}
}

// P5.1: of a store whose heads name nothing the first generation and area are named, in sector 1, and made durable.
func TestOpenNew(t *testing.T) {
	for _, n := range []int{122, 123, 200, 512} {
		s := from(t, blank(n))
		wantRecords(t, s, 1)
		want := with(blank(n), 1, headOf(1, 0))
		wantStill(t, s, want, 1)
		wantRecords(t, s, 1)
		wantStill(t, s, want, 1)
	}
	torn := make([][]byte, need)
	s := from(t, torn)
	wantRecords(t, s, 1)
	wantStill(t, s, with(torn, 1, headOf(1, 0)), 1)
}

// P5.1: also where the first head had to be written, the records are those of area 0 in generation 1.
func TestOpenNewWithRecords(t *testing.T) {
	image := with(with(blank(need), 2, wholes(1, "a", mixed(100, 2), "")...), 62, wholes(1, "b")...)
	image[1] = nil
	s := from(t, image)
	j := wantRecords(t, s, 1, "a", mixed(100, 2), "")
	with(image, 1, headOf(1, 0))
	wantStill(t, s, image, 1)
	appended(t, j, "c")
	wantRecords(t, s, 1, "a", mixed(100, 2), "", "c")
}

// P5.1: the power fails at Open's own write.
func TestOpenFails(t *testing.T) {
	for _, torn := range []bool{false, true} {
		for keep := range 3 {
			s := from(t, with(blank(need), 2, wholes(1, "a")...))
			s.Arm(0)
			wantNoJournal(t, s, api.ErrPower)
			if s.Writes() != 1 || s.Pending() != 1 {
				t.Errorf("%d writes, %d pending; want 1, 1", s.Writes(), s.Pending())
			}
			wantNoJournal(t, s, api.ErrPower)
			s.Revive(keep, torn)
			wantRecords(t, s, 1, "a")
			if writes := 2 - min(keep, 1); s.Writes() != writes {
				t.Errorf("%d writes; want %d", s.Writes(), writes)
			}
		}
	}
	s := from(t, blank(need))
	s.Arm(1)
	j := wantRecords(t, s, 1)
	wantErr(t, "Append with the power armed", j.Append(nil), api.ErrPower)
}

// P5.1: of the heads that name something the one with the greater generation counts, and nothing is written.
func TestOpenHeads(t *testing.T) {
	for _, c := range []struct {
		even, odd         int // generations; 0: no head
		evenArea, oddArea int
		wantGen, wantArea int
	}{
		{0, 1, 0, 0, 1, 0},
		{0, 1, 0, 1, 1, 1},
		{2, 0, 0, 0, 2, 0},
		{2, 0, 1, 0, 2, 1},
		{2, 1, 1, 0, 2, 1},
		{2, 1, 0, 1, 2, 0},
		{2, 1, 0, 0, 2, 0},
		{2, 3, 1, 0, 3, 0},
		{2, 3, 0, 1, 3, 1},
		{2, 3, 1, 1, 3, 1},
		{256, 255, 1, 0, 256, 1},
		{256, 257, 1, 0, 257, 0},
		{2, 9999, 1, 0, 9999, 0},
		{1 << 29, 1<<24 + 1, 0, 1, 1 << 29, 0},
		{maxGen, maxGen - 1, 1, 0, maxGen, 1},
		{maxGen - 2, maxGen - 1, 1, 0, maxGen - 1, 0},
		{maxGen, 1, 0, 1, maxGen, 0},
		{maxGen, 0, 0, 0, maxGen, 0},
		{0, maxGen - 1, 0, 1, maxGen - 1, 1},
	} {
		image := blank(need)
		if c.even > 0 {
			with(image, 0, headOf(c.even, c.evenArea))
		}
		if c.odd > 0 {
			with(image, 1, headOf(c.odd, c.oddArea))
		}
		with(image, areaAt[c.wantArea], wholes(c.wantGen, "here", mixed(60, 3))...)
		with(image, areaAt[1-c.wantArea], wholes(c.wantGen, "there")...)
		s := from(t, image)
		wantRecords(t, s, c.wantGen, "here", mixed(60, 3))
		wantStill(t, s, image, 0)
	}
}

// P5.1: heads that aren't durable yet count as they read.
func TestOpenPending(t *testing.T) {
	s := from(t, with(blank(need), 1, headOf(1, 0)))
	s.Write(0, headOf(2, 1))
	for i, b := range wholes(2, "x", mixed(90, 1)) {
		s.Write(62+i, b)
	}
	wantRecords(t, s, 2, "x", mixed(90, 1))
	if s.Writes() != 4 || s.Pending() != 4 {
		t.Errorf("%d writes, %d pending; want 4, 4", s.Writes(), s.Pending())
	}
}

// P5.2: a record is cut into parts, laid byte by byte as the chapter has it, behind the others, and durable.
func TestAppend(t *testing.T) {
	for _, n := range lengths {
		for _, size := range []int{need, maxSectors} {
			s := from(t, blank(size))
			j := wantRecords(t, s, 1)
			record := mixed(n, n)
			appended(t, j, "ahead", record, "behind")
			want := with(with(blank(size), 1, headOf(1, 0)), 2, wholes(1, "ahead", record, "behind")...)
			used := 2 + max(1, (n+46)/47)
			wantStill(t, s, want, 1+used)
			wantTold(t, j, 1, 3, 60-used)
			wantRecords(t, s, 1, "ahead", record, "behind")
		}
	}
}

// P5.2: one part's sector, written out.
func TestAppendBytes(t *testing.T) {
	j, s := fresh(t)
	appended(t, j, "", "ab")
	b := s.Image()[3]
	want := "\x01\x00\x00\x00\x01\x00\x00\x00\x00\x01\x02ab" + strings.Repeat("\x00", 47)
	if string(b[:60]) != want {
		t.Errorf("the sector of \"ab\": % x; want % x", b[:60], want)
	}
	appended(t, j, mixed(48, 5))
	b = s.Image()[5]
	want = "\x01\x00\x00\x00\x02\x00\x00\x00\x01\x02\x01" + mixed(48, 5)[47:] + strings.Repeat("\x00", 48)
	if string(b[:60]) != want {
		t.Errorf("the sector of a second part: % x; want % x", b[:60], want)
	}
	b = s.Image()[1]
	want = "\x01\x00\x00\x00\x00\x00\x00\x00\x00\x01\x01" + strings.Repeat("\x00", 49)
	if string(b[:60]) != want {
		t.Errorf("the first head: % x; want % x", b[:60], want)
	}
}

// P5.2: what Append refuses, in the order of the errors (R2), and that it then changes nothing (R4).
func TestAppendRefused(t *testing.T) {
	j, s := fresh(t)
	appended(t, j, mixed(1128, 1), mixed(1128, 2), mixed(400, 3))
	wantTold(t, j, 1, 3, 3)
	image, writes := s.Image(), s.Writes()
	s.Arm(3)
	for _, n := range []int{1129, 1130, 2000, 1 << 20} {
		wantErr(t, "Append of too many bytes", j.Append(make([]byte, n)), 2)
	}
	for _, n := range []int{142, 143, 188, 500, 1127, 1128} {
		wantErr(t, "Append without room", j.Append(make([]byte, n)), 12)
	}
	wantTold(t, j, 1, 3, 3)
	wantStill(t, s, image, writes)
	appended(t, j, mixed(141, 4))
	wantTold(t, j, 1, 4, 0)
	for _, n := range []int{0, 1, 47, 1128} {
		wantErr(t, "Append to a full area", j.Append(make([]byte, n)), api.ErrSpace)
	}
	wantErr(t, "Append to a full area", j.Append(nil), api.ErrSpace)
	wantErr(t, "Append to a full area", j.Append(make([]byte, 1129)), api.ErrRange)
	wantRecords(t, s, 1, mixed(1128, 1), mixed(1128, 2), mixed(400, 3), mixed(141, 4))
	wantErr(t, "the armed write", s.Write(0, make([]byte, 64)), api.ErrPower)
}

// P5.2: records of one part each fill an area, of both areas.
func TestAppendTillFull(t *testing.T) {
	for area := range 2 {
		j, s := fresh(t)
		if area == 1 {
			rewritten(t, j)
		}
		var want []string
		for i := range 60 {
			wantTold(t, j, 1+area, i, 60-i)
			want = append(want, mixed(i%48, i))
			appended(t, j, want[i])
		}
		wantErr(t, "Append to a full area", j.Append(nil), api.ErrSpace)
		j = wantRecords(t, s, 1+area, want...)
		wantErr(t, "Append to a full area", j.Append(nil), api.ErrSpace)
		wantErr(t, "Append to a full area", j.Append([]byte("x")), api.ErrSpace)
		rewritten(t, j, want...)
		wantRecords(t, s, 2+area, want...)
	}
}

// P5.2: a full area holds no sector of another, nor one behind the areas.
func TestAppendStaysInArea(t *testing.T) {
	image := blank(130)
	for i := range image {
		image[i] = bytes.Repeat([]byte{byte(i)}, 64)
	}
	s := from(t, image)
	j := wantRecords(t, s, 1)
	appended(t, j, mixed(1128, 1), mixed(1128, 2), mixed(564, 3))
	want := with(with(slices.Clone(image), 1, headOf(1, 0)), 2, wholes(1, mixed(1128, 1), mixed(1128, 2), mixed(564, 3))...)
	wantStill(t, s, want, 61)
	rewritten(t, j, mixed(1128, 4), mixed(1128, 5), mixed(564, 6))
	with(with(want, 0, headOf(2, 1)), 62, wholes(2, mixed(1128, 4), mixed(1128, 5), mixed(564, 6))...)
	wantStill(t, s, want, 122)
}

// P5.3: the records are replaced by others in the other area, and a head names it; what is told, written and read again.
func TestRewrite(t *testing.T) {
	for _, c := range [][]string{
		nil,
		{""},
		{"x", "y"},
		{"", "", ""},
		{mixed(47, 1), mixed(48, 2), "", mixed(1128, 3), mixed(1127, 4)},
		{mixed(1128, 1), mixed(1128, 2), mixed(564, 3)},
		{mixed(1128, 1), mixed(1128, 2), mixed(517, 3), ""},
		slices.Repeat([]string{""}, 60),
		slices.Repeat([]string{mixed(47, 9)}, 60),
	} {
		j, s := fresh(t)
		appended(t, j, "old", mixed(300, 8))
		want := s.Image()
		writes := s.Writes()
		for gen := 2; gen < 6; gen++ {
			area := 1 - gen%2
			rewritten(t, j, c...)
			with(want, areaAt[area], wholes(gen, c...)...)
			with(want, gen%2, headOf(gen, area))
			writes += sectorsOf(c...) + 1
			wantStill(t, s, want, writes)
			wantTold(t, j, gen, len(c), 60-sectorsOf(c...))
		}
		j = wantRecords(t, s, 5, c...)
		if j.Room() > 0 {
			appended(t, j, "more")
			wantRecords(t, s, 5, append(slices.Clone(c), "more")...)
		}
	}
}

// P5.3: what Rewrite refuses, in the order of the errors (R2), and that it then changes nothing (R4).
func TestRewriteRefused(t *testing.T) {
	j, s := fresh(t)
	appended(t, j, "a", mixed(100, 1))
	image, writes := s.Image(), s.Writes()
	s.Arm(1)
	long, many := strings.Repeat("l", 1129), slices.Repeat([]string{""}, 61)
	for _, c := range []struct {
		records []string
		want    api.Errno
	}{
		{[]string{long}, 2},
		{[]string{"", long}, api.ErrRange},
		{[]string{long, ""}, api.ErrRange},
		{append(slices.Clone(many), long), api.ErrRange},
		{append([]string{long}, many...), api.ErrRange},
		{slices.Repeat([]string{mixed(1128, 1)}, 1000), 12},
		{many, api.ErrSpace},
		{[]string{mixed(1128, 1), mixed(1128, 2), mixed(565, 3)}, api.ErrSpace},
		{[]string{mixed(1128, 1), mixed(1128, 2), mixed(564, 3), ""}, api.ErrSpace},
		{[]string{"", mixed(1128, 1), mixed(1128, 2), mixed(518, 3)}, api.ErrSpace},
		{slices.Repeat([]string{mixed(48, 1)}, 31), api.ErrSpace},
	} {
		wantErr(t, "Rewrite", j.Rewrite(lists(c.records...)), c.want)
		wantTold(t, j, 1, 2, 56)
		wantStill(t, s, image, writes)
	}
	appended(t, j, "b")
	wantRecords(t, s, 1, "a", mixed(100, 1), "b")
	wantErr(t, "the armed write", s.Write(0, make([]byte, 64)), api.ErrPower)
}

// P5.3: the sectors are durable ahead of the head, which is written last.
func TestRewriteOrder(t *testing.T) {
	for _, records := range [][]string{nil, {""}, {"a", mixed(300, 1), "b"}, slices.Repeat([]string{"z"}, 60)} {
		j, s := fresh(t)
		appended(t, j, "old")
		n := sectorsOf(records...)
		want := with(s.Image(), 62, wholes(2, records...)...)
		s.Arm(n)
		wantErr(t, "Rewrite", j.Rewrite(lists(records...)), api.ErrPower)
		if s.Pending() != 1 {
			t.Errorf("%d pending, as the head is written; want 1", s.Pending())
		}
		s.Revive(0, true)
		want[0] = nil
		wantImage(t, s, want)
		wantRecords(t, s, 1, "old")
	}
}

// P5.3: the next generation is above its own, of the other kind, and above those of all parts of the other area.
func TestNextGeneration(t *testing.T) {
	for _, c := range []struct{ own, there, want int }{
		{1, 0, 2}, {2, 0, 3}, {3, 0, 4}, {255, 0, 256}, {65536, 0, 65537},
		{1, 1, 2}, {1, 2, 4}, {1, 3, 4}, {1, 4, 6}, {1, 5, 6}, {1, 1000, 1002}, {1, 1001, 1002},
		{2, 1, 3}, {2, 2, 3}, {2, 3, 5}, {2, 4, 5}, {2, 5, 7}, {2, 1000, 1001}, {2, 1001, 1003},
		{9, 8, 10}, {9, 9, 10}, {9, 10, 12}, {10, 9, 11}, {10, 10, 11}, {10, 11, 13},
		{maxGen - 1, 0, maxGen}, {maxGen - 1, maxGen - 1, maxGen}, {1, maxGen - 1, maxGen}, {1, maxGen - 2, maxGen},
		{2, maxGen - 2, maxGen - 1}, {2, maxGen - 3, maxGen - 1}, {maxGen - 2, maxGen - 2, maxGen - 1},
		{maxGen, 0, 0}, {maxGen, maxGen, 0}, {maxGen, 1, 0},
		{1, maxGen, 0}, {maxGen - 1, maxGen, 0}, {2, maxGen, 0}, {2, maxGen - 1, 0}, {maxGen - 2, maxGen - 1, 0},
	} {
		for area := range 2 {
			for _, at := range []int{0, 1, 30, 59} {
				image := with(blank(need), c.own%2, headOf(c.own, area))
				if c.there > 0 {
					with(image, areaAt[1-area]+at, laid(uint32(c.there), 7, 2, 5, 47, mixed(47, at)))
				}
				wantNext(t, image, c.own, area, c.want)
			}
		}
	}
}

// wantNext opens, and wants a Rewrite to have such a generation, or ErrWorn, if that is 0.
func wantNext(t *testing.T, image [][]byte, own, area, want int) {
	t.Helper()
	s := from(t, image)
	j, _ := opened(t, s)
	image, writes := s.Image(), s.Writes()
	if want == 0 {
		wantErr(t, "Rewrite", j.Rewrite(lists("x")), 15)
		wantErr(t, "Rewrite of nothing", j.Rewrite(nil), api.ErrWorn)
		wantTold(t, j, own, 0, 60)
		wantStill(t, s, image, writes)
		appended(t, j, "goes on")
		wantRecords(t, s, own, "goes on")
		return
	}
	wantErr(t, "Rewrite", j.Rewrite(lists("x")), api.OK)
	wantTold(t, j, want, 1, 59)
	with(image, areaAt[1-area], whole(want, 0, "x")...)
	with(image, want%2, headOf(want, 1-area))
	wantStill(t, s, image, writes+2)
	wantRecords(t, s, want, "x")
}

// P5.3: all parts of the other area count, whatever record they are of, and those of its own area, the heads and the sectors behind don't.
func TestNextGenerationCounts(t *testing.T) {
	for area := range 2 {
		own := areaAt[area]
		there := areaAt[1-area]
		for _, c := range []struct {
			at   int
			b    []byte
			want int
		}{
			{there, laid(50, 0, 0, 1, 0, ""), 52},
			{there + 59, laid(50, maxGen, 23, 24, 1, "x"), 52},
			{there + 5, laid(50, 3, 0, 24, 47, mixed(47, 1)), 52},
			{there + 5, laid(51, 3, 0, 24, 47, mixed(47, 1)), 52},
			{there + 5, laid(50, 3, 0, 24, 46, mixed(46, 1)), 2},
			{there + 5, laid(50, maxGen+1, 0, 1, 1, "x"), 2},
			{there + 5, laid(maxGen+1, 0, 0, 1, 1, "x"), 2},
			{there + 5, laid(math.MaxUint32, 0, 0, 1, 1, "x"), 2},
			{there + 5, nil, 2},
			{own + 5, laid(50, 0, 0, 1, 0, ""), 2},
			{own, laid(50, 0, 0, 1, 0, ""), 2},
			{own + 59, laid(50, 0, 0, 1, 0, ""), 2},
			{0, laid(50, 1, 0, 1, 0, ""), 2},
			{122, laid(50, 0, 0, 1, 0, ""), 2},
			{129, laid(50, 0, 0, 1, 0, ""), 2},
		} {
			image := with(blank(130), 1, headOf(1, area))
			image[c.at] = c.b
			wantNext(t, image, 1, area, c.want)
		}
	}
}

// P5.3: several parts in the other area: the greatest generation counts.
func TestNextGenerationOfMany(t *testing.T) {
	image := with(with(blank(need), 1, headOf(3, 0)), 2, wholes(3, "a", "b")...)
	for i := range 60 {
		with(image, 62+i, whole(2+2*(i*7%60), i, "x")...)
	}
	s := from(t, image)
	j := wantRecords(t, s, 3, "a", "b")
	rewritten(t, j, "c")
	wantTold(t, j, 122, 1, 59)
	wantRecords(t, s, 122, "c")
}

// P5.3: what earlier generations, and a Rewrite that failed, have left behind isn't taken for records.
func TestLeftBehind(t *testing.T) {
	j, s := fresh(t)
	appended(t, j, "a0", "a1", "a2", "a3")
	rewritten(t, j, "b0", "b1", "b2")
	rewritten(t, j, "c0")
	wantRecords(t, s, 3, "c0")
	s.Arm(2)
	wantErr(t, "Rewrite", j.Rewrite(lists("d0", "d1", "d2")), api.ErrPower)
	s.Revive(3, false)
	j = wantRecords(t, s, 3, "c0")
	rewritten(t, j, "e0")
	wantRecords(t, s, 6, "e0")
	j = wantRecords(t, s, 6, "e0")
	appended(t, j, "e1")
	wantRecords(t, s, 6, "e0", "e1")
}

// P5.4: what is told behind each call.
func TestTold(t *testing.T) {
	j, _ := fresh(t)
	wantTold(t, j, 1, 0, 60)
	used := 0
	for i, n := range []int{0, 1, 47, 48, 94, 95, 1128} {
		appended(t, j, mixed(n, i))
		used += []int{1, 1, 1, 2, 2, 3, 24}[i]
		wantTold(t, j, 1, i+1, 60-used)
	}
	rewritten(t, j, mixed(1128, 1), mixed(1128, 2))
	wantTold(t, j, 2, 2, 12)
	rewritten(t, j, mixed(1128, 1), mixed(1128, 2), mixed(564, 3))
	wantTold(t, j, 3, 3, 0)
	rewritten(t, j)
	wantTold(t, j, 4, 0, 60)
}

// A nil journal answers as the chapter says, at all arguments.
func TestNilJournal(t *testing.T) {
	var j *journal.Journal
	for _, n := range []int{0, 1, 47, 1128, 1129, 5000} {
		wantErr(t, "Append", j.Append(make([]byte, n)), 1)
		wantErr(t, "Rewrite", j.Rewrite(slices.Repeat([][]byte{make([]byte, n)}, 61)), api.ErrNil)
	}
	wantErr(t, "Append", j.Append(nil), api.ErrNil)
	wantErr(t, "Rewrite", j.Rewrite(nil), 1)
	wantTold(t, j, 0, 0, 0)
}

// A journal that Open didn't make has no store: no call of it panics (R1), and none goes well.
func TestZeroJournal(t *testing.T) {
	for range 2 {
		var j journal.Journal
		for _, n := range []int{0, 1, 1128, 1129} {
			if j.Append(make([]byte, n)) == api.OK || j.Rewrite([][]byte{make([]byte, n)}) == api.OK {
				t.Errorf("%d bytes are kept without a store", n)
			}
		}
		if j.Rewrite(nil) == api.OK {
			t.Error("a Rewrite goes well without a store")
		}
		wantTold(t, &j, 0, 0, 0)
	}
}

// R1: nil and the empty list are one.
func TestNilAndEmpty(t *testing.T) {
	a, sa := fresh(t)
	b, sb := fresh(t)
	wantErr(t, "Append", a.Append(nil), api.OK)
	wantErr(t, "Append", b.Append([]byte{}), api.OK)
	wantImage(t, sa, sb.Image())
	wantErr(t, "Rewrite", a.Rewrite(nil), api.OK)
	wantErr(t, "Rewrite", b.Rewrite([][]byte{}), api.OK)
	wantImage(t, sa, sb.Image())
	wantErr(t, "Rewrite", a.Rewrite([][]byte{nil, {}, nil}), api.OK)
	wantErr(t, "Rewrite", b.Rewrite([][]byte{{}, nil, {}}), api.OK)
	wantImage(t, sa, sb.Image())
	wantRecords(t, sa, 3, "", "", "")
}

// filled is a text's bytes with spare room behind them, that is all of one byte.
func filled(text string) []byte {
	b := append([]byte(text), "########"...)
	return b[:len(text):len(b)]
}

// untouched tells whether what filled made is as it was.
func untouched(b []byte, text string) bool {
	return string(b[:len(text)+8]) == text+"########"
}

// scribble writes over bytes and the spare room behind them.
func scribble(b []byte) {
	b = b[:cap(b)]
	for i := range b {
		b[i] = 0xee
	}
}

// R5: what is handed in is neither changed nor kept, the spare room behind it neither.
func TestHandedIn(t *testing.T) {
	j, s := fresh(t)
	var want []string
	for _, n := range lengths[:9] {
		text := mixed(n, n)
		b := filled(text)
		wantErr(t, "Append", j.Append(b), api.OK)
		if !untouched(b, text) {
			t.Errorf("Append has changed %d bytes, or the room behind them", n)
		}
		scribble(b)
		want = append(want, text)
	}
	wantRecords(t, s, 1, want...)
	var l [][]byte
	for _, text := range want {
		l = append(l, filled(text))
	}
	spare := append(slices.Clone(l), []byte("spare"))
	wantErr(t, "Rewrite", j.Rewrite(spare[:len(l)]), api.OK)
	for i, text := range want {
		if !untouched(l[i], text) || &spare[i][:1][0] != &l[i][:1][0] {
			t.Errorf("Rewrite has changed record %d, or the room behind it", i)
		}
		scribble(l[i])
	}
	if string(spare[len(l)]) != "spare" {
		t.Error("Rewrite has changed the room behind the list")
	}
	clear(spare)
	wantRecords(t, s, 2, want...)
	rewritten(t, j, "x")
	wantRecords(t, s, 3, "x")
}

// R6: what Open answers is new memory, of which no two records, no two answers and no store share any.
func TestAnswered(t *testing.T) {
	j, s := fresh(t)
	want := []string{mixed(20, 1), mixed(47, 2), "", mixed(100, 3), mixed(1128, 4), mixed(94, 5)}
	appended(t, j, want...)
	image := s.Image()
	_, first, _ := journal.Open(s)
	_, second, _ := journal.Open(s)
	for i := range first {
		scribble(first[i])
		first[i] = append(first[i], "and more"...)
		first[i] = nil
		for k := i + 1; k < len(first); k++ {
			if string(first[k]) != want[k] {
				t.Errorf("the records %d and %d share memory", i, k)
			}
		}
	}
	first = append(first[:0], make([][]byte, cap(first))...)
	if !slices.Equal(texts(second), want) {
		t.Error("two answers of Open share memory")
	}
	wantImage(t, s, image)
	appended(t, j, "more")
	wantRecords(t, s, 1, append(want, "more")...)
}

// R7: two journals on two stores don't touch each other.
func TestTwoJournals(t *testing.T) {
	a, sa := fresh(t)
	b, sb := fresh(t)
	appended(t, a, "a", mixed(100, 1))
	wantTold(t, b, 1, 0, 60)
	wantStill(t, sb, with(blank(need), 1, headOf(1, 0)), 1)
	rewritten(t, b, "b")
	appended(t, b, "bb")
	wantTold(t, a, 1, 2, 56)
	wantRecords(t, sa, 1, "a", mixed(100, 1))
	sa.Arm(0)
	wantErr(t, "Append", a.Append(nil), api.ErrPower)
	appended(t, b, "bbb")
	sa.Revive(1, false)
	wantRecords(t, sb, 2, "b", "bb", "bbb")
	wantRecords(t, sa, 1, "a", mixed(100, 1), "")
	wantErr(t, "Append to a dead journal", a.Append(nil), api.ErrPower)
}
