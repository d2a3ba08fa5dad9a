package wal_test

import (
	"math/rand"
	"slices"
	"testing"

	"lagoon/api"
)

// read lays blocks as a log with the start 5, and wants it to have these records, as the plain one has; what is appended then stands behind them.
func (d *disk) read(what string, blocks []string, want ...[]api.Update) {
	d.t.Helper()
	all := append(slices.Clone(blocks), slicesOf("", room)...)[:room]
	d.putLog(0, 5, all...)
	if got := plainStanding(all, 5); !equal(got, want) {
		d.t.Errorf("%s: the plain log has %v; want %v", what, got, want)
	}
	l := d.opened(0, 1, 3, 5, want...)
	if l.Room() == 0 {
		return
	}
	more := wide(1, 77)
	d.appended(l, more)
	d.opened(0, 1, 3, 5, plainStanding(with(all, widthOf(want...), framesOf(5+len(want), more)...), 5)...)
	wantLog(d.t, what, l, len(want)+1, room-widthOf(want...)-1, 6+len(want))
	if d.t.Failed() {
		d.t.Fatal(what)
	}
}

// with is blocks with others in their place, from one on.
func with(blocks []string, at int, others ...string) []string {
	blocks = slices.Clone(blocks)
	copy(blocks[at:], others)
	return blocks
}

// four are records of one, three, two and one frames: seven blocks.
func four() [][]api.Update {
	return [][]api.Update{wide(1, 1), wide(3, 2), wide(2, 3), wide(1, 4)}
}

// ahead are the records whose frames stand ahead of a block.
func ahead(records [][]api.Update, block int) [][]api.Update {
	n := 0
	for widthOf(records[:n+1]...) <= block {
		n++
	}
	return records[:n]
}

// faults are what a frame may be turned into, none of which is it; it is of a record with this number, and has this place and count.
func faults(number, place, count int, piece string) map[string]string {
	laid := func(number, place, count int) string { return form(number) + form(place) + form(count) + piece }
	head := form(number) + form(place) + form(count)
	return map[string]string{
		"nothing":                  "",
		"the number above":         laid(number+1, place, count),
		"the number below":         laid(number-1, place, count),
		"the start's number, 2^40": laid(maxCount, place, count),
		"the number 0":             laid(0, place, count),
		"the number and 2^32":      laid(number+1<<32, place, count)[:min(44, len(laid(number+1<<32, place, count)))],
		"the place above":          laid(number, place+1, count),
		"the place below":          laid(number, place+2, count),
		"the place 127":            laid(number, 127, count),
		"the count above":          laid(number, place, count+1),
		"the count below":          laid(number, place, count-1),
		"the count 0":              laid(number, place, 0),
		"the count 15":             laid(number, place, 15),
		"the count 16":             laid(number, place, 16),
		"the count 127":            laid(number, place, 127),
		"the forms for each other": form(place) + form(number) + form(count) + piece,
		"place and count changed":  form(number) + form(count) + form(place) + piece,
		"no piece":                 head,
		"no place":                 form(number) + form(count) + piece,
		"the piece alone":          piece,
		"the number alone":         form(number),
		"a number without end":     "\x80",
		"the number, longer":       longer(number) + form(place) + form(count) + piece,
		"the place, longer":        form(number) + longer(place) + form(count) + piece,
		"the count, longer":        form(number) + form(place) + longer(count) + piece,
		"the piece's end cut":      head + piece[:len(piece)-1],
		"the piece's front cut":    head + piece[1:],
		"half of the piece":        head + piece[:len(piece)/2],
		"a byte behind":            head + piece + "\x00",
		"a byte ahead":             head + "\x00" + piece,
		"a form more":              head + form(count) + piece,
		"zeros":                    string(make([]byte, len(head)+len(piece))),
	}
}

// P15.1: each frame of each record in turn is another one, or none: its record isn't there, nor those behind it.
func TestFrameFaults(t *testing.T) {
	d := newDisk(t, 1)
	records := four()
	blocks := allFrames(5, records...)
	d.read("as it is", blocks, records...)
	for i, frame := range blocks {
		number, place, count := int(frame[0]), int(frame[1]), int(frame[2])
		want := ahead(records, i)
		for what, s := range faults(number, place, count, frame[3:]) {
			d.read(what, with(blocks, i, s), want...)
		}
		for bit := range 8 * len(frame) {
			b := []byte(frame)
			b[bit/8] ^= 1 << (bit % 8)
			d.read("a bit", with(blocks, i, string(b)), want...)
		}
	}
}

// P15.1: frames of the greatest numbers: of places and counts too.
func TestFrameNumbers(t *testing.T) {
	d := newDisk(t, 1)
	blocks := framesOf(5, wide(1, 1))
	piece := blocks[0][3:]
	for _, n := range append(farOff(), 15, 16, 17, 255, 256, 257, 1<<32, 1<<32+1, maxCount, maxCount+1) {
		d.read("a great number", []string{form(n) + "\x00\x01" + piece[:20]})
		d.read("a great place", []string{"\x05" + form(max(n, 1)) + "\x01" + piece[:20]})
		d.read("a great count", []string{"\x05\x00" + form(n) + piece[:20]})
		d.read("a great count and its record", []string{"\x05\x00" + form(n) + piece[:20], "\x05\x01" + form(n) + piece[20:]})
	}
}

// P15.1: rows of blocks: what is missing, doubled, in another order, of another count all over.
func TestFrameRows(t *testing.T) {
	d := newDisk(t, 1)
	r := four()
	a, b, c, e := framesOf(5, r[0]), framesOf(6, r[1]), framesOf(7, r[2]), framesOf(8, r[3])
	gap := []string{""}
	for what, row := range map[string]struct {
		blocks []string
		want   int
	}{
		"all":                           {slices.Concat(a, b, c, e), 4},
		"nothing":                       {nil, 0},
		"the first record missing":      {slices.Concat(b, c, e), 0},
		"a gap for the first":           {slices.Concat(gap, b, c, e), 0},
		"a gap ahead of all":            {slices.Concat(gap, a, b, c, e), 0},
		"a gap ahead of the second":     {slices.Concat(a, gap, b, c, e), 1},
		"a gap ahead of the last":       {slices.Concat(a, b, c, gap, e), 3},
		"the second one missing":        {slices.Concat(a, c, e), 1},
		"the third one missing":         {slices.Concat(a, b, e), 2},
		"two for each other":            {slices.Concat(a, c, b, e), 1},
		"a record twice":                {slices.Concat(a, a, b, c), 1},
		"the last frame missing":        {slices.Concat(a, b, c[:1]), 2},
		"the last of three missing":     {slices.Concat(a, b[:2]), 1},
		"the last of three left out":    {slices.Concat(a, b[:2], c, e), 1},
		"the last two left out":         {slices.Concat(a, b[:1], c, e), 1},
		"the first of three left out":   {slices.Concat(a, b[1:], c, e), 1},
		"the middle one left out":       {slices.Concat(a, b[:1], b[2:], c, e), 1},
		"a gap among three":             {slices.Concat(a, b[:1], gap, b[1:], c, e), 1},
		"frames in another order":       {slices.Concat(a, b[1:2], b[:1], b[2:], c, e), 1},
		"frames backward":               {slices.Concat(a, b[2:], b[1:2], b[:1], c, e), 1},
		"a frame twice":                 {slices.Concat(a, b[:2], b[1:], c, e), 1},
		"the first frame twice":         {slices.Concat(a, b[:1], b, c, e), 1},
		"all of a number above":         {slices.Concat(a, framesOf(7, r[1]), c, e), 1},
		"all of a number below":         {slices.Concat(a, framesOf(5, r[1]), c, e), 1},
		"all of the start":              {slices.Concat(framesOf(5, r[0]), framesOf(5, r[1])), 1},
		"all of a start below":          {allFrames(4, r...), 0},
		"all of a start above":          {allFrames(6, r...), 0},
		"another record of that number": {slices.Concat(a, b[:1], framesOf(6, wide(3, 9))[1:], c, e), 1},
		"all but the checksum's last":   {cut(5, bytesOf(r[1])[:len(bytesOf(r[1]))-1]), 0},
		"a byte behind the checksum":    {cut(5, bytesOf(r[1])+"\x00"), 0},
		"bytes that aren't sealed":      {cut(5, open(r[1])), 0},
		"sealed twice":                  {cut(5, sealed(bytesOf(r[1]))), 0},
		"no bytes":                      {[]string{"\x05\x00\x01"}, 0},
		"two frames without bytes":      {[]string{"\x05\x00\x02", "\x05\x01\x02"}, 0},
	} {
		d.read(what, row.blocks, r[:row.want]...)
	}
	for i := range c {
		for _, count := range []int{0, 1, 3, 4, 15} {
			l := framed(7, c[0][3:], c[1][3:])
			for k := range l {
				if k == i || count > 2 {
					l[k] = "\x07" + form(k) + form(count) + l[k][3:]
				}
			}
			d.read("another count", slices.Concat(a, b, l, e), r[:2]...)
		}
	}
}

// P15.1: well-sealed bytes in well-laid frames that are no record's.
func TestNoRecords(t *testing.T) {
	d := newDisk(t, 1)
	two := []api.Update{{Block: 5, Ver: 1, Data: "a"}, {Block: 6, Ver: 2, Data: "b"}}
	of := func(u ...api.Update) string { return open(u) }
	d.read("two updates", cut(5, sealed(of(two...))), two)
	for what, s := range map[string]string{
		"no bytes ahead of the checksum": "",
		"no update":                      "\x00",
		"no update, and one":             "\x00" + open(two)[1:],
		"an update too few":              "\x03" + open(two)[1:],
		"an update too many":             "\x01" + open(two)[1:],
		"very many":                      form(1<<62) + open(two)[1:],
		"2^63 - 1":                       form(1<<63-1) + open(two)[1:],
		"2^32 and 2":                     form(1<<32+2) + open(two)[1:],
		"the count, longer":              longer(2) + open(two)[1:],
		"a block, longer":                "\x02" + longer(5) + open(two)[2:],
		"a version, longer":              "\x02\x05" + longer(1) + open(two)[3:],
		"a text's number, longer":        "\x02\x05\x01" + longer(1) + open(two)[4:],
		"cut by a byte":                  open(two)[:len(open(two))-1],
		"a byte behind":                  open(two) + "\x00",
		"an update behind":               open(two) + "\x07\x01\x00",
		"block 0":                        of(api.Update{Block: 0, Ver: 1, Data: "a"}),
		"block 80":                       of(api.Update{Block: 80, Ver: 1, Data: "a"}),
		"block 2^32 + 5":                 of(api.Update{Block: 1<<32 + 5, Ver: 1, Data: "a"}),
		"block 2^63 - 1":                 of(api.Update{Block: 1<<63 - 1, Ver: 1, Data: "a"}),
		"version 0":                      of(api.Update{Block: 5, Data: "a"}),
		"version 2^40 + 1":               of(api.Update{Block: 5, Ver: maxCount + 1, Data: "a"}),
		"version 2^63 - 1":               of(api.Update{Block: 5, Ver: 1<<63 - 1, Data: "a"}),
		"39 bytes":                       of(api.Update{Block: 5, Ver: 1, Data: mixed(39, 1)}),
		"300 bytes":                      of(api.Update{Block: 5, Ver: 1, Data: mixed(300, 1)}),
		"a text that is cut":             "\x01\x05\x01\x09abc",
		"a text of 2^63 - 1":             "\x01\x05\x01" + form(1<<63-1) + "abc",
		"one block twice":                of(two[0], two[0]),
		"blocks that fall":               of(two[1], two[0]),
		"one amiss of three":             of(two[0], two[1], api.Update{Block: 7, Ver: 0}),
		"the same block at last":         of(two[0], two[1], two[1]),
	} {
		d.read(what, slices.Concat(framesOf(5, two), cut(6, sealed(s)), framesOf(7, two)), two)
		d.read(what+", first", cut(5, sealed(s)))
	}
}

// P15.1: a record of which a frame would stand behind the log's end isn't there, though just that frame stands in the block behind.
func TestOverTheEnd(t *testing.T) {
	d := newDisk(t, 1)
	for n := 2; n <= room; n++ {
		for inside := 1; inside <= n; inside++ {
			last := wide(n, 9)
			var before [][]api.Update
			for range room - inside {
				before = append(before, wide(1, len(before)))
			}
			for owner := range nServers - 1 {
				blocks := append(allFrames(5, before...), framesOf(5+len(before), last)...)
				d.putLog(owner, 5, blocks...)
				want := before
				if inside == n {
					want = append(want, last)
				}
				d.opened(owner, 0, 1, 5, want...)
			}
		}
	}
}

// P15.1: a log of before it was cleared: frames of before stand behind the records, at all places, and are none of its records.
func TestFramesOfBefore(t *testing.T) {
	d := newDisk(t, 1)
	l := d.opened(0, 0, 1, 1)
	start := 1
	rnd := rand.New(rand.NewSource(1))
	for round := range 300 {
		d.cleared(l)
		start = l.Next()
		d.opened(0, 1, 1, start)
		var records [][]api.Update
		for range rnd.Intn(5) {
			u := wide(1+rnd.Intn(5), round+len(records))
			if l.Room() < widthOf(u) {
				break
			}
			d.appended(l, u)
			records = append(records, u)
			d.opened(0, 1, 1, start, records...)
		}
	}
	if start < 600 {
		t.Errorf("the last start is %d", start)
	}
}

// P15.1, R1: blocks at random, most of them frames of some log that are spoilt in one place: what the plain log has.
func TestRandomBlocks(t *testing.T) {
	d := newDisk(t, 1)
	rnd := rand.New(rand.NewSource(2))
	some := 0
	for round := range 3000 {
		start := 1 + rnd.Intn(400)
		var records [][]api.Update
		for widthOf(records...) < room {
			records = append(records, wide(1+rnd.Intn(4), round+len(records)))
		}
		blocks := allFrames(start, records...)[:room]
		for range rnd.Intn(3) {
			blocks[rnd.Intn(room)] = spoilt(rnd, blocks[rnd.Intn(room)])
		}
		d.putLog(1, start, blocks...)
		want := plainStanding(blocks, start)
		d.opened(1, 0, 1, start, want...)
		some += len(want)
	}
	if some < 6000 {
		t.Errorf("%d records were there", some)
	}
}

// spoilt is a block with something done to it at random.
func spoilt(rnd *rand.Rand, s string) string {
	b := []byte(s)
	if len(b) < 3 {
		return mixed(rnd.Intn(45), rnd.Intn(256))
	}
	switch rnd.Intn(5) {
	case 0:
		return ""
	case 1:
		return mixed(rnd.Intn(45), rnd.Intn(256))
	case 2:
		b[rnd.Intn(len(b))] = byte(rnd.Intn(256))
	case 3:
		b[rnd.Intn(3)] = byte(rnd.Intn(20))
	case 4:
		b = b[:rnd.Intn(len(b))]
	}
	return string(b)
}

// R1, P15.1: any blocks: an opening answers what the plain log has, or ErrForm of a head that is none.
func FuzzOpen(f *testing.F) {
	l := allFrames(5, wide(1, 1), wide(2, 2))
	f.Add("\x05", l[0], l[1], l[2])
	f.Add("", framesOf(1, one(5, 1, "a"))[0], "", framesOf(2, one(5, 1, "b"))[0])
	f.Add("\x00", "", "", "")
	f.Add("\x05", "\x05\x00\x7f", "\x05\x01\xff\xff\xff\xff\xff\xff\xff\xff\x7f", "\x80")
	f.Fuzz(func(t *testing.T, head, a, b, c string) {
		d := newDisk(t, 1)
		var blocks []string
		for _, s := range []string{a, b, c} {
			blocks = append(blocks, s[:min(44, len(s))])
		}
		head = head[:min(44, len(head))]
		d.put(80, append([]string{head}, blocks...)...)
		start, left := plainNumber(head)
		if head == "" {
			start, left = 1, ""
		}
		if start < 1 || start > maxCount || left != "" {
			d.wantNone("a head that is none", d.x, 0, 0, 1, errForm)
			return
		}
		d.opened(0, 0, 1, start, plainStanding(blocks, start)...)
	})
}
