package wal_test

import (
	"testing"

	"lagoon/api"
)

// P15.3: a log is cleared, with no record, with some and with as many as there is room for, once and again: the head alone is written.
func TestClear(t *testing.T) {
	for owner := range nServers {
		d := newDisk(t, 2)
		l := d.opened(owner, (owner+1)%3, 1, 1)
		start, heads := 1, 0
		for _, n := range []int{0, 0, 1, 2, 15, 0, 3, 1, 200, 1, 0} {
			appends := n
			if n > room {
				appends = 0
			}
			for i := range appends {
				d.appended(l, wide(1, i))
			}
			wantLog(t, "records", l, appends, room-appends, start+appends)
			was := d.tell()
			d.cleared(l)
			heads++
			start += appends + 1
			wantLog(t, "Clear", l, 0, room, start)
			for i := range 2 {
				d.wantBlock(i, headOf(owner), heads, form(start))
				was.blocks[i][headOf(owner)] = api.Cell{Seq: heads, Data: form(start)}
				was.writes[i]++
			}
			d.wantStill("Clear, but for the head", was)
			d.opened(owner, owner, 1, start)
		}
	}
}

// P15.3: the records that are cleared needn't be one's own; wide ones count once.
func TestClearOpened(t *testing.T) {
	d := newDisk(t, 1)
	l := d.opened(0, 0, 1, 1)
	d.appended(l, wide(5, 1), wide(2, 2), wide(7, 3))
	k := d.opened(0, 1, 1, 1, wide(5, 1), wide(2, 2), wide(7, 3))
	d.cleared(k)
	wantLog(t, "Clear", k, 0, room, 5)
	d.wantBlock(0, 80, 1, "\x05")
	d.appended(k, wide(1, 4))
	d.wantFrames(81, 2, framesOf(5, wide(1, 4)))
	d.opened(0, 2, 1, 5, wide(1, 4))
}

// P15.3: the last starts.
func TestClearLast(t *testing.T) {
	for start := maxCount - 5; start <= maxCount; start++ {
		for records := range 5 {
			d := newDisk(t, 1)
			d.putLog(1, start)
			l := d.opened(1, 1, 1, start)
			for range min(records, maxCount-start) {
				d.appended(l, wide(1, 1))
			}
			next, was := l.Next(), d.tell()
			if next+1 > maxCount {
				for range 2 {
					wantErr(t, "Clear of a worn log", l.Clear(d.x), errWorn)
					wantErr(t, "Clear of a worn log, by no config", l.Clear(api.Config{}), errWorn)
					wantLog(t, "Clear of a worn log", l, next-start, room-(next-start), next)
				}
				d.wantStill("Clear of a worn log", was)
				continue
			}
			wantErr(t, "Clear by no config", l.Clear(api.Config{}), errRange)
			d.cleared(l)
			wantLog(t, "Clear", l, 0, room, next+1)
			d.opened(1, 1, 1, next+1)
		}
	}
}

// P15.3: behind a Clear nothing hangs: any record is appended, with another number than what hung.
func TestClearWhatHangs(t *testing.T) {
	for _, u := range [][]api.Update{wide(1, 1), wide(3, 9), wide(4, 1)} {
		d := newDisk(t, 2)
		l := d.opened(0, 0, 1, 1)
		d.appended(l, wide(1, 5))
		d.fail(l, wide(3, 9), 1, 2)
		wantErr(t, "Revive", d.Revive(1, 1, false), ok)
		d.opened(0, 0, 1, 1, wide(1, 5), wide(3, 9))
		d.cleared(l)
		wantLog(t, "Clear", l, 0, room, 3)
		d.opened(0, 0, 1, 3)
		d.appended(l, u)
		wantLog(t, "Append", l, 1, room-widthOf(u), 4)
		d.opened(0, 1, 1, 3, u)
		d.appended(l, wide(1, 6))
		d.opened(0, 1, 1, 3, u, wide(1, 6))
	}
}

// P15.3, R4: the head's writing fails at each storage node, and is revived in every way: the log is as it was, what hangs hangs, and it is cleared again, with the same start, by the same config or by the next one.
func TestClearFails(t *testing.T) {
	for node := range nStores {
		for way := range 16 {
			d := newDisk(t, 3)
			l := d.opened(0, 1, 4, 1)
			d.cleared(l)
			d.appended(l, wide(2, 1))
			hangs := way/8 == 1
			if hangs {
				wantErr(t, "Append by no config", l.Append(api.Config{}, wide(1, 2)), errRange)
			}
			wantErr(t, "Arm", d.Arm(node, 0), ok)
			for range 2 {
				wantErr(t, "Clear with the power armed", l.Clear(d.x), errDown)
				wantLog(t, "Clear with the power armed", l, 1, 13, 3)
			}
			for i := range nStores {
				if has := d.Block(i, 80).Data == "\x04"; has != (i < node) {
					t.Errorf("node %d armed: node %d has the new head: %v", node, i, has)
				}
			}
			if hangs {
				wantErr(t, "Append of another record", l.Append(d.x, wide(1, 3)), errBusy)
			}
			if way%2 == 1 {
				d.x = d.next((node+1)%3, (node+2)%3)
			}
			wantErr(t, "Revive", d.Revive(node, way/2%2, way/4%2 == 0), ok)
			d.cleared(l)
			wantLog(t, "Clear again", l, 0, room, 4)
			if way%2 == 1 {
				d.x = d.next(0, 1, 2)
			}
			d.appended(l, wide(1, 3))
			d.wantNodes(0, 4, wide(1, 3))
		}
	}
}

// P15.3: it is the writer's generation that clears.
func TestClearFenced(t *testing.T) {
	for owner := range nServers {
		for writer := range nServers {
			d := newDisk(t, 1)
			l := d.opened(owner, writer, 5, 1)
			for s := range nServers {
				gen := 5
				if s != writer {
					gen = maxCount
				}
				wantErr(t, "Fence", d.Fence(d.x, s, gen), ok)
			}
			d.cleared(l)
			wantErr(t, "Fence", d.Fence(d.x, writer, 6), ok)
			was := d.tell()
			wantErr(t, "Clear behind a fence", l.Clear(d.x), errFence)
			d.wantStill("Clear behind a fence", was)
			wantLog(t, "Clear behind a fence", l, 0, room, 2)
		}
	}
}
