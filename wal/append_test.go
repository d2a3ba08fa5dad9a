package wal_test

import (
	"slices"
	"testing"

	"lagoon/api"
	"lagoon/wal"
)

// wantFrames holds what all storage nodes have in blocks against frames, each of which was written so many times.
func (d *disk) wantFrames(b, seq int, frames []string) {
	d.t.Helper()
	for i := range d.Len() {
		for k, frame := range frames {
			d.wantBlock(i, b+k, seq, frame)
		}
	}
}

// P15.2: records of several numbers of frames, of each owner and writer: each frame is written once, into the next block, and nothing else is.
func TestAppendFrames(t *testing.T) {
	for owner := range nServers {
		for writer := range nServers {
			d := newDisk(t, 1+(owner+writer)%3)
			l := d.opened(owner, writer, 1+writer, 1)
			var records [][]api.Update
			at := headOf(owner) + 1
			for i, n := range []int{1, 3, 2, 1, 5, 3} {
				u := wide(n, i+owner)
				was := d.tell()
				wantErr(t, "Append", l.Append(d.x, u), ok)
				records = append(records, u)
				wantLog(t, "Append", l, len(records), room-widthOf(records...), 1+len(records))
				d.wantFrames(at, 1, framesOf(i+1, u))
				at += n
				for node := range d.Len() {
					if w := d.Writes(node) - was.writes[node]; w != n {
						t.Errorf("node %d writes %d times; want %d", node, w, n)
					}
				}
				d.opened(owner, 2-writer, 1, 1, records...)
			}
			for b := range nBlocks {
				if b <= headOf(owner) || b >= headOf(owner+1) {
					d.wantBlock(0, b, 0, "")
				}
			}
		}
	}
}

// P15.2: records of each width, behind records of each width: there is just enough room, or a block too little.
func TestAppendRoom(t *testing.T) {
	for used := range room + 1 {
		for n := 1; n <= room; n++ {
			d := newDisk(t, 1)
			l := d.opened(1, 1, 1, 1)
			var records [][]api.Update
			if used > 0 {
				records = append(records, wide(used, 1))
				d.appended(l, records...)
			}
			was := d.tell()
			u := wide(n, 2)
			err := l.Append(d.x, u)
			if used+n <= room {
				wantErr(t, "Append with room", err, ok)
				records = append(records, u)
			} else {
				wantErr(t, "Append without room", err, errSpace)
				d.wantStill("Append without room", was)
			}
			wantLog(t, "Append", l, len(records), room-widthOf(records...), 1+len(records))
			again := d.opened(1, 1, 1, 1, records...)
			for _, log := range []*wal.Log{l, again} {
				for free := log.Room(); free > 0; free-- {
					wantErr(t, "Append of one block", log.Append(d.x, wide(1, free)), ok)
				}
				wantErr(t, "Append of one block too many", log.Append(d.x, wide(1, 3)), errSpace)
			}
		}
	}
}

// P15.2, R4: what may be no record is refused by any log, and leaves it and the disk as they were.
func TestAppendNoRecord(t *testing.T) {
	d := newDisk(t, 2)
	l := d.opened(0, 0, 1, 1)
	d.appended(l, wide(2, 1))
	next := d.next(0)
	for _, what := range []string{"a log", "a log of which a record hangs", "a full log", "a log of a chain that is down"} {
		was, records, free, number := d.tell(), l.Records(), l.Room(), l.Next()
		for _, u := range [][]api.Update{nil, {}, one(0, 1, ""), one(80, 1, ""), one(5, 0, ""), one(5, maxCount+1, ""), one(5, 1, mixed(39, 1)), sized(541, 1), sized(700, 1), slices.Repeat(one(5, 1, "a"), 2), make([]api.Update, 1000), {{Block: 6, Ver: 1}, {Block: 5, Ver: 1}}} {
			for _, x := range []api.Config{d.x, next, {}} {
				wantErr(t, what+": Append of no record", l.Append(x, u), errRange)
			}
		}
		d.wantStill(what, was)
		wantLog(t, what, l, records, free, number)
		switch what {
		case "a log":
			wantErr(t, "Append by no config", l.Append(api.Config{}, wide(13, 1)), errRange)
		case "a log of which a record hangs":
			d.appended(l, wide(13, 1))
		case "a full log":
			wantErr(t, "Fail", d.Fail(0), ok)
		}
	}
}

// P15.2, R2: where several errors apply, the one named first.
func TestAppendOrder(t *testing.T) {
	d := newDisk(t, 2)
	d.putLog(0, maxCount-1)
	l := d.opened(0, 0, 1, maxCount-1)
	d.appended(l, wide(14, 1))
	wantErr(t, "no room, and worn", l.Append(d.x, wide(2, 1)), errSpace)
	wantErr(t, "worn", l.Append(d.x, wide(1, 1)), errWorn)
	wantErr(t, "worn, and no config", l.Append(api.Config{}, wide(1, 1)), errWorn)
	wantErr(t, "no room, and no config", l.Append(api.Config{}, wide(2, 1)), errSpace)
	wantErr(t, "no record, and no room", l.Append(api.Config{}, sized(541, 1)), errRange)
	k := d.opened(1, 0, 1, 1)
	d.appended(k, wide(10, 1))
	wantErr(t, "Fail", d.Fail(1), ok)
	wantErr(t, "worn, and down", l.Append(d.x, wide(1, 1)), errWorn)
	wantErr(t, "no room, and down", k.Append(d.x, wide(6, 1)), errSpace)
	wantErr(t, "down", k.Append(d.x, wide(5, 1)), errDown)
	wantErr(t, "busy, and no room", k.Append(d.x, wide(6, 1)), errBusy)
	wantErr(t, "busy, and down", k.Append(d.x, wide(1, 1)), errBusy)
	wantErr(t, "no record, and busy", k.Append(d.x, nil), errRange)
	wantErr(t, "the same, and down", k.Append(d.x, wide(5, 1)), errDown)
	wantErr(t, "the same, and no config", k.Append(api.Config{}, wide(5, 1)), errRange)
	wantLog(t, "all these", k, 1, 5, 2)
}

// P15.2: the last numbers of records.
func TestAppendLast(t *testing.T) {
	for start := maxCount - 4; start <= maxCount; start++ {
		d := newDisk(t, 1)
		d.putLog(2, start)
		l := d.opened(2, 2, 1, start)
		var records [][]api.Update
		for number := start; number < maxCount; number++ {
			u := wide(1+number%3, 5)
			d.appended(l, u)
			records = append(records, u)
			d.opened(2, 1, 1, start, records...)
		}
		was := d.tell()
		for range 2 {
			wantErr(t, "Append of the number 2^40", l.Append(d.x, wide(1, 1)), errWorn)
			wantLog(t, "a worn log", l, len(records), room-widthOf(records...), maxCount)
		}
		d.wantStill("a worn log", was)
		again := d.opened(2, 0, 1, start, records...)
		wantErr(t, "Append of the number 2^40", again.Append(d.x, wide(1, 1)), errWorn)
	}
}

// others are records that aren't this one, of one update, of "abc", 300 and 5.
func others() [][]api.Update {
	return [][]api.Update{
		one(6, 300, "abc"), one(5, 301, "abc"), one(5, 300, "abd"), one(5, 300, "ab"), one(5, 300, "abcd"), one(5, 300, ""), one(5, 300, "abc\x00"),
		{{Block: 5, Ver: 300, Data: "abc"}, {Block: 6, Ver: 1}}, {{Block: 4, Ver: 1}, {Block: 5, Ver: 300, Data: "abc"}}, wide(2, 1),
	}
}

// P15.2: each error of the chain makes a record hang, whatever was written: another one is refused, the same one is taken, by its worth.
func TestAppendHangs(t *testing.T) {
	for what, row := range map[string]struct {
		x   api.Config
		err api.Errno
	}{
		"an old config":   {config(1, []int{0, 1}, []int{1, 1}), errEpoch},
		"no config":       {api.Config{}, errRange},
		"nobody has all":  {config(2, []int{0}, []int{2}), errLost},
		"a node is down":  {config(2, []int{0, 1, 2}, []int{1, 1, 1}), errDown},
		"a node of none":  {config(2, []int{3}, []int{1}), errRange},
		"a later one too": {config(3, []int{0, 2}, []int{1, 1}), errDown},
	} {
		d := newDisk(t, 3)
		d.x = d.next(0, 1)
		l := d.opened(0, 0, 1, 1)
		d.appended(l, wide(2, 1))
		wantErr(t, "Fail", d.Fail(2), ok)
		u, was := one(5, 300, "abc"), d.tell()
		for range 2 {
			wantErr(t, what, l.Append(row.x, u), row.err)
			d.wantStill(what, was)
			wantLog(t, what, l, 1, 13, 2)
			for _, v := range others() {
				wantErr(t, "Append while another record hangs", l.Append(d.x, v), errBusy)
			}
			d.wantStill("refused records", was)
		}
		wantErr(t, "Append of what hangs", l.Append(d.x, one(5, 300, "abc")), ok)
		wantLog(t, "what hung is there", l, 2, 12, 3)
		d.opened(0, 0, 1, 1, wide(2, 1), u)
		d.appended(l, others()...)
		d.opened(0, 0, 1, 1, append([][]api.Update{wide(2, 1), u}, others()...)...)
	}
}

// fail arms a node, and wants a record's Append to fail at its frame k there.
func (d *disk) fail(l *wal.Log, u []api.Update, node, k int) {
	d.t.Helper()
	wantErr(d.t, "Arm", d.Arm(node, k), ok)
	records, free, next := l.Records(), l.Room(), l.Next()
	wantErr(d.t, "Append with the power armed", l.Append(d.x, u), errDown)
	wantLog(d.t, "Append with the power armed", l, records, free, next)
	at := headOf(0) + logBlocks - free
	for i, frame := range framesOf(next, u) {
		for other := range d.Len() {
			is := i < k || i == k && other < node
			if has := d.Block(other, at+i).Data == frame; d.Up(other) && has != is {
				d.t.Errorf("node %d armed at %d: node %d has frame %d: %v", node, k, other, i, has)
			}
		}
	}
	if d.Up(node) {
		d.t.Errorf("node %d is up", node)
	}
}

// P15.2, R4: each frame's writing fails at each storage node, and is revived in every way: what was written ahead stays, the record hangs, and is appended again by the same config, or by the next one, without that node and with it.
func TestAppendFails(t *testing.T) {
	u, v := wide(3, 2), wide(1, 3)
	for node := range nStores {
		for k := range 3 {
			for way := range 12 {
				d := newDisk(t, 3)
				l := d.opened(0, 1, 4, 1)
				d.cleared(l)
				d.appended(l, wide(2, 1))
				d.fail(l, u, node, k)
				wantErr(t, "Append of another record", l.Append(d.x, v), errBusy)
				wantErr(t, "Append with a node that is down", l.Append(d.x, u), errDown)
				if way%3 > 0 {
					d.x = d.next((node+1)%3, (node+2)%3)
				}
				if way%3 == 1 {
					d.appended(l, u)
					d.opened(0, 0, 1, 2, wide(2, 1), u)
				}
				wantErr(t, "Revive", d.Revive(node, way/3%2, way/6 == 0), ok)
				if way%3 > 0 {
					d.x = d.next(0, 1, 2)
				}
				if way%3 != 1 {
					wantErr(t, "Append of another record", l.Append(d.x, v), errBusy)
					d.appended(l, u)
				}
				wantLog(t, "behind all that", l, 2, 10, 4)
				d.appended(l, v)
				d.wantNodes(0, 2, wide(2, 1), u, v)
			}
		}
	}
}

// P15.2: it is the writer's generation that is fenced, not the owner's: what it appends is refused from then on, and nothing is written.
func TestAppendFenced(t *testing.T) {
	for owner := range nServers {
		for writer := range nServers {
			d := newDisk(t, 2)
			l := d.opened(owner, writer, 5, 1)
			d.appended(l, wide(1, 1))
			for s := range nServers {
				gen := 5
				if s != writer {
					gen = maxCount
				}
				wantErr(t, "Fence", d.Fence(d.x, s, gen), ok)
			}
			d.appended(l, wide(1, 2))
			wantErr(t, "Fence", d.Fence(d.x, writer, 6), ok)
			was := d.tell()
			for range 2 {
				wantErr(t, "Append behind a fence", l.Append(d.x, wide(2, 3)), errFence)
			}
			wantErr(t, "Append of another record", l.Append(d.x, wide(1, 3)), errBusy)
			wantErr(t, "Clear behind a fence", l.Clear(d.x), errFence)
			d.wantStill("a fenced log", was)
			wantLog(t, "a fenced log", l, 2, 13, 3)
			k := d.opened(owner, writer, 6, 1, wide(1, 1), wide(1, 2))
			d.appended(k, wide(2, 3))
			d.opened(owner, writer, 5, 1, wide(1, 1), wide(1, 2), wide(2, 3))
		}
	}
}

// P15.2, P15.3, R5: each call goes by the config that it is given; none is kept.
func TestConfigs(t *testing.T) {
	d := newDisk(t, 3)
	x := d.x
	y := d.next(2)
	l := d.opened(0, 0, 1, 1)
	wantErr(t, "Append", l.Append(y, wide(1, 1)), ok)
	if d.Block(0, 81).Seq != 0 || d.Block(2, 81).Seq != 1 {
		t.Error("Append by a config of node 2 alone is written elsewhere")
	}
	wantErr(t, "Clear by an old config, which nodes 0 and 1 know", l.Clear(x), errEpoch)
	wantErr(t, "Append by an old config", l.Append(x, wide(1, 2)), errEpoch)
	wantErr(t, "Append by node 0's old config", l.Append(config(1, []int{0}, []int{1}), wide(1, 2)), ok)
	if d.Block(0, 82).Seq != 1 || d.Block(2, 82).Seq != 0 {
		t.Error("Append by a config of node 0 alone is written elsewhere")
	}
	wantErr(t, "Clear", l.Clear(y), ok)
	if d.Block(0, 80).Seq != 0 || d.Block(2, 80).Seq != 1 {
		t.Error("Clear by a config of node 2 alone is written elsewhere")
	}
}

// R1: Append and Clear by configs of any numbers.
func TestAnyConfig(t *testing.T) {
	d := newDisk(t, 2)
	l := d.opened(0, 0, 1, 1)
	configs := []api.Config{{}, config(1, nil, nil), config(1, make([]int, 1000), make([]int, 1000)), config(1, []int{0}, nil), config(1, []int{0}, []int{1, 1})}
	for _, n := range append(farOff(), -1, maxCount+1) {
		configs = append(configs, config(n, []int{0}, []int{1}), config(1, []int{n}, []int{1}), config(1, []int{0, n}, []int{1, 1}), config(1, []int{0}, []int{n}))
	}
	configs = append(configs, config(0, []int{0}, []int{1}), config(1, []int{2}, []int{1}), config(1, []int{1, 1}, []int{1, 1}), config(1, []int{0}, []int{0}), config(1, []int{0}, []int{2}))
	for _, x := range configs {
		wantErr(t, "Append", l.Append(x, wide(2, 1)), errRange)
		wantErr(t, "Clear", l.Clear(x), errRange)
		d.wantNone("no config", x, 0, 0, 1, errRange)
	}
	wantLog(t, "no configs", l, 0, room, 1)
	wantErr(t, "Append of another record", l.Append(d.x, wide(1, 1)), errBusy)
	d.appended(l, wide(2, 1))
}
