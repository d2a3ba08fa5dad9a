package wal_test

import (
	"fmt"
	"strings"
	"testing"

	"lagoon/api"
	"lagoon/chain"
	"lagoon/wal"
)

// P15.1, R2, R3: each chain by each owner, writer and generation: the error named first, and nothing beside it.
func TestOpenErrors(t *testing.T) {
	none, fine, down, form := &disk{t: t}, newDisk(t, 2), newDisk(t, 2), newDisk(t, 2)
	wantErr(t, "Fail", down.Fail(1), ok)
	for owner := range nServers {
		form.put(headOf(owner), "\x00")
	}
	servers := append(farOff(), -1, 0, 1, 2, 3, 4, 8, 256)
	gens := append(farOff(), -1, 0, 1, 2, maxCount-1, maxCount, maxCount+1, maxCount+2)
	for _, owner := range servers {
		for _, writer := range servers {
			for _, gen := range gens {
				none.wantNone("no chain", fine.x, owner, writer, gen, errNil)
				if min(owner, writer) < 0 || max(owner, writer) > 2 || gen < 1 || gen > maxCount {
					fine.wantNone("numbers that are none", fine.x, owner, writer, gen, errRange)
					down.wantNone("a node that is down, too", down.x, owner, writer, gen, errRange)
					form.wantNone("a head that is none, too", form.x, owner, writer, gen, errRange)
					fine.wantNone("a config that is none, too", api.Config{}, owner, writer, gen, errRange)
					continue
				}
				fine.opened(owner, writer, gen, 1)
				down.wantNone("a node that is down", down.x, owner, writer, gen, errDown)
				form.wantNone("a head that is none", form.x, owner, writer, gen, errForm)
			}
		}
	}
}

// P15.1, R4: an opening that is refused for its numbers doesn't touch the chain, though the config would be a new one.
func TestOpenRefused(t *testing.T) {
	d := newDisk(t, 3)
	x, was := d.next(0, 2), d.tell()
	for _, n := range []int{-1, 3} {
		d.wantNone("no owner", x, n, 0, 1, errRange)
		d.wantNone("no writer", x, 0, n, 1, errRange)
	}
	d.wantNone("no generation", x, 0, 0, 0, errRange)
	d.wantNone("no generation", x, 0, 0, maxCount+1, errRange)
	d.wantStill("refused openings", was)
}

// P15.1: the first error of reading: of each config that isn't the chain's, also where the head is none as well.
func TestOpenConfig(t *testing.T) {
	d := newDisk(t, 3)
	d.put(80, "\x00")
	d.put(97, framesOf(1, one(5, 1, "a"))...)
	old := d.x
	d.x = d.next(2, 1, 0)
	d.opened(1, 0, 1, 1, one(5, 1, "a"))
	was := d.tell()
	for what, row := range map[string]struct {
		x   api.Config
		err api.Errno
	}{
		"an old config":         {old, errEpoch},
		"no config":             {api.Config{}, errRange},
		"no members":            {config(2, nil, nil), errRange},
		"a member twice":        {config(2, []int{0, 0}, []int{1, 1}), errRange},
		"no such member":        {config(2, []int{0, 3}, []int{1, 1}), errRange},
		"a member below 0":      {config(2, []int{-1}, []int{1}), errRange},
		"too few sinces":        {config(2, []int{0, 1}, []int{1}), errRange},
		"a since of later":      {config(2, []int{0}, []int{3}), errRange},
		"an epoch above all":    {config(maxCount+1, []int{0}, []int{1}), errRange},
		"nobody who has all":    {config(2, []int{0, 1}, []int{2, 2}), errLost},
		"nobody who has all, 9": {config(9, []int{2}, []int{9}), errLost},
	} {
		d.wantNone(what, row.x, 0, 0, 1, row.err)
		d.wantNone(what, row.x, 1, 1, 1, row.err)
		d.wantStill(what, was)
	}
	wantErr(t, "Fail", d.Fail(1), ok)
	d.wantNone("a node that is down", d.x, 1, 0, 1, errDown)
	d.wantNone("a node that is down, an old config", old, 1, 0, 1, errDown)
	d.x = d.next(0, 2)
	d.opened(1, 0, 1, 1, one(5, 1, "a"))
}

// P15.1, R4: the first reading installs the config; the power fails at each write of that. Behind it the log is there.
func TestOpenInstalls(t *testing.T) {
	records := [][]api.Update{wide(1, 1), wide(3, 2)}
	for node := range nStores {
		for k := range 30 {
			d := newDisk(t, 3)
			d.x = d.next(0, 2)
			l := d.opened(0, 0, 1, 1)
			d.cleared(l)
			d.appended(l, records...)
			wantErr(t, "Arm", d.Arm(node, k), ok)
			x := d.next(0, 2, 1)
			if _, got, err := wal.Open(d.Chain, x, 0, 1, 1); err == ok {
				if !equal(got, records) {
					t.Errorf("the records %v; want %v", got, records)
				}
				continue
			}
			d.wantNone("a node whose power failed", x, 0, 1, 1, errDown)
			wantErr(t, "Revive", d.Revive(node, k%2, k%3 == 0), ok)
			d.x = x
			d.opened(0, 1, 1, 2, records...)
		}
	}
}

// P15.1: Open writes nothing, by a config that is installed.
func TestOpenWritesNothing(t *testing.T) {
	for n := 1; n <= nStores; n++ {
		d := newDisk(t, n)
		d.opened(2, 1, 7, 1)
		d.putLog(0, 5, allFrames(5, wide(1, 1), wide(4, 2))...)
		d.put(96, "\x00")
		was := d.tell()
		d.opened(0, 0, 1, 5, wide(1, 1), wide(4, 2))
		d.opened(0, 2, maxCount, 5, wide(1, 1), wide(4, 2))
		d.opened(2, 1, 1, 1)
		d.wantNone("a head that is none", d.x, 1, 1, 1, errForm)
		d.wantStill("openings", was)
	}
}

// P15.1: heads, and what they tell.
func TestHeads(t *testing.T) {
	d := newDisk(t, 1)
	for owner := range nServers {
		for s, start := range map[string]int{"": 1, "\x01": 1, "\x02": 2, "\x7f": 127, "\x80\x01": 128, "\xac\x02": 300, form(maxCount - 1): maxCount - 1, "\x80\x80\x80\x80\x80\x20": maxCount} {
			d.put(headOf(owner), s)
			d.opened(owner, 0, 1, start)
		}
	}
	for what, s := range map[string]string{
		"0":                       "\x00",
		"2^40 + 1":                "\x81\x80\x80\x80\x80\x20",
		"2^40 + 2":                form(maxCount + 2),
		"2^41":                    form(1 << 41),
		"2^62":                    form(1 << 62),
		"2^63 - 1":                form(1<<63 - 1),
		"0, longer":               longer(0),
		"1, longer":               longer(1),
		"300, longer":             longer(300),
		"2^40, longer":            longer(maxCount),
		"1, far longer":           "\x81\x80\x80\x80\x00",
		"a form without end":      "\x80",
		"300, cut short":          form(300)[:1],
		"2^40, cut short":         form(maxCount)[:5],
		"nine bytes without end":  strings.Repeat("\xff", 9),
		"ten bytes":               strings.Repeat("\x80", 9) + "\x01",
		"1, and a zero":           "\x01\x00",
		"1, and 1":                "\x01\x01",
		"300, and a byte":         form(300) + "a",
		"2^40, and a byte":        form(maxCount) + "\x00",
		"1, and many bytes":       "\x01" + mixed(43, 1),
		"a one as a digit, and a": "1a",
		"a frame":                 framesOf(1, one(5, 1, "a"))[0],
		"zeros":                   strings.Repeat("\x00", 44),
	} {
		d.put(80, s)
		d.put(81, framesOf(1, one(5, 1, "a"))...)
		d.wantNone("the head "+what, d.x, 0, 0, 1, errForm)
	}
	d.put(80, "")
	d.opened(0, 0, 1, 1, one(5, 1, "a"))
	d.put(80, "\x02")
	d.opened(0, 0, 1, 2)
}

// P15.1, R7: the log of a server stands in its own 16 blocks, whatever stands in all others.
func TestOpenBlocks(t *testing.T) {
	for owner := range nServers {
		d := newDisk(t, 1)
		for b := range nBlocks {
			d.put(b, []string{"\x00", "\x09", framesOf(7, one(5, 1, "other"))[0]}[b%3])
		}
		records := [][]api.Update{wide(7, 1), wide(1, 2), wide(6, 3), wide(1, 4)}
		d.putLog(owner, 7, allFrames(7, records...)...)
		d.opened(owner, (owner+1)%3, 1, 7, records...)
		d.opened(owner, owner, 1, 7, records...)
		d.putLog(owner, 7, allFrames(7, wide(15, 5))...)
		d.opened(owner, owner, 9, 7, wide(15, 5))
	}
}

// P15.1: what is read is what the tail has.
func TestOpenReadsTail(t *testing.T) {
	d := newDisk(t, 2)
	d.putLog(0, 4, allFrames(4, wide(1, 1))...)
	wantErr(t, "Arm", d.Arm(1, 0), ok)
	wantErr(t, "Write", d.Write(d.x, 80, form(9), 0, 1), errDown)
	wantErr(t, "Revive", d.Revive(1, 0, false), ok)
	wantErr(t, "Arm", d.Arm(1, 0), ok)
	wantErr(t, "Write", d.Write(d.x, 82, framesOf(5, wide(1, 2))[0], 0, 1), errDown)
	wantErr(t, "Revive", d.Revive(1, 0, false), ok)
	d.opened(0, 0, 1, 4, wide(1, 1))
	d.x = d.next(0)
	d.opened(0, 0, 1, 9)
	d.put(80, form(4))
	d.opened(0, 0, 1, 4, wide(1, 1), wide(1, 2))
}

// P15.1: records of each number of frames, numbers of each length of form, as many as there is room for.
func TestOpenRecords(t *testing.T) {
	d := newDisk(t, 1)
	for _, start := range []int{1, 2, 126, 127, 128, 300, 16383, 16384, 1 << 21, 1 << 28, 1 << 35, maxCount - 16} {
		for n := 1; n <= room; n++ {
			var records [][]api.Update
			for widthOf(records...)+n <= room {
				records = append(records, wide(n, start+n+len(records)))
			}
			d.putLog(1, start, append(allFrames(start, records...), slicesOf("", room-widthOf(records...))...)...)
			d.opened(1, 0, 1, start, records...)
		}
	}
}

// slicesOf is one text so many times.
func slicesOf(s string, n int) []string {
	l := make([]string, n)
	for i := range l {
		l[i] = s
	}
	return l
}

// The chapter's examples, and their bytes.
func TestExamples(t *testing.T) {
	d := newDisk(t, 3)
	l, records, err := wal.Open(d.Chain, d.x, 0, 0, 1)
	if l == nil || len(records) > 0 || err != ok {
		t.Fatalf("Open: %v, %v, %d", l, records, err)
	}
	wantLog(t, "a new log", l, 0, 15, 1)
	wantErr(t, "Append", l.Append(d.x, one(5, 1, "a")), ok)
	wantLog(t, "behind Append", l, 1, 14, 2)
	for i := range nStores {
		d.wantBlock(i, 81, 1, "\x01\x00\x01"+"\x01\x05\x01\x01a"+"\xba\x98\x4a\xfe")
		d.wantBlock(i, 80, 0, "")
		d.wantBlock(i, 82, 0, "")
	}
	wantErr(t, "Clear", l.Clear(d.x), ok)
	wantLog(t, "behind Clear", l, 0, 15, 3)
	for i := range nStores {
		d.wantBlock(i, 80, 1, "\x03")
	}
	d.opened(0, 0, 1, 3)
	u := []api.Update{{Block: 5, Ver: 300}, {Block: 79, Ver: 1, Data: "xyz"}}
	wantErr(t, "Append", l.Append(d.x, u), ok)
	d.wantBlock(0, 81, 2, "\x03\x00\x01"+"\x02\x05\xac\x02\x00\x4f\x01\x03xyz"+"\x25\x5b\x61\x26")
	v := one(1, 1, "abcdefghijklmnopqrstuvwxyz0123456789AB")
	wantErr(t, "Append", l.Append(d.x, v), ok)
	d.wantBlock(2, 82, 1, "\x04\x00\x02"+"\x01\x01\x01\x26abcdefghijklmnopqrstuvwxyz012345")
	d.wantBlock(2, 83, 1, "\x04\x01\x02"+"6789AB"+"\xf6\x3f\x45\x6f")
	d.opened(0, 2, 9, 3, u, v)
	wantWidth(t, "one update of 38 bytes", v, 2)
}

// R1, R3: every call of the nil Log.
func TestNilLog(t *testing.T) {
	var l *wal.Log
	c, _ := chain.New(1)
	x, _ := chain.First(1)
	for _, y := range []api.Config{x, {}} {
		for _, u := range [][]api.Update{nil, one(5, 1, "a"), one(0, 0, ""), sized(541, 1)} {
			wantErr(t, "Append to no log", l.Append(y, u), errNil)
		}
		wantErr(t, "Clear of no log", l.Clear(y), errNil)
	}
	wantLog(t, "no log", l, 0, 0, 0)
	if c.Writes(0) != 2 {
		t.Error(fmt.Sprint("no log has written ", c.Writes(0)))
	}
}
