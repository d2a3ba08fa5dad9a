package wal_test

import (
	"math/rand"
	"slices"
	"strconv"
	"testing"

	"lagoon/api"
	"lagoon/chain"
	"lagoon/wal"
)

// history is a log that one writer after the other opens, clears and writes, on a disk whose configs are each Next of the one before it, and what is to be there.
type history struct {
	t       *testing.T
	rnd     *rand.Rand
	d       *disk
	owner   int
	writer  int
	gens    [nServers]int // each server's generation
	l       *wal.Log      // the writer's
	old     []*wal.Log    // those of writers that are fenced
	ready   bool          // no Clear has failed since the writer cleared it
	acked   [][]api.Update
	hangs   []api.Update
	doubt   bool           // a Clear has failed since one went well: it may have cleared the log all the same
	made    int            // how many records there were
	answers map[string]int // how often each call came to each answer
	lost    bool           // nobody has all any more
}

// newHistory is that of a new disk.
func newHistory(t *testing.T, seed int64, answers map[string]int) *history {
	t.Helper()
	h := &history{t: t, rnd: rand.New(rand.NewSource(seed)), d: newDisk(t, nStores), answers: answers, gens: [nServers]int{1, 1, 1}}
	h.owner = h.rnd.Intn(nServers)
	h.writer = h.owner
	return h
}

// count takes up an answer.
func (h *history) count(what string, err api.Errno) {
	h.answers[what+" "+strconv.Itoa(int(err))]++
	h.lost = h.lost || err == errLost
}

// wantMay wants the records of an opening to be such as may be there: those that were appended since the log was cleared, and perhaps what hangs.
func (h *history) wantMay(records [][]api.Update) {
	h.t.Helper()
	switch {
	case equal(records, h.acked):
		h.count("opened, as appended", ok)
	case h.hangs != nil && equal(records, append(slices.Clone(h.acked), h.hangs)):
		h.count("opened, with what hangs", ok)
	case h.doubt && len(records) == 0:
		h.count("opened, cleared by a Clear that failed", ok)
	default:
		h.t.Errorf("Open: the records %v; appended were %v, %v hangs", records, h.acked, h.hangs)
	}
}

// peek opens the log, to look at it alone.
func (h *history) peek() {
	h.t.Helper()
	_, records, err := wal.Open(h.d.Chain, h.d.x, h.owner, h.rnd.Intn(nServers), 1)
	h.count("Open", err)
	if err == ok {
		h.wantMay(records)
	}
}

// open opens the log for who writes it from now on.
func (h *history) open() {
	h.t.Helper()
	l, records, err := wal.Open(h.d.Chain, h.d.x, h.owner, h.writer, h.gens[h.writer])
	h.count("Open", err)
	h.l, h.ready = nil, false
	if err == ok {
		h.wantMay(records)
		h.l = l
	}
}

// takeOver fences the writer, and has another one open the log, or the same one in its next generation.
func (h *history) takeOver() {
	h.t.Helper()
	err := h.d.Fence(h.d.x, h.writer, h.gens[h.writer]+1)
	h.count("Fence", err)
	if err != ok {
		return
	}
	h.gens[h.writer]++
	if h.l != nil {
		h.old = append(h.old, h.l)
	}
	h.writer = h.rnd.Intn(nServers)
	h.open()
}

// stray is a call of a writer that was fenced: it never goes well, and changes nothing.
func (h *history) stray() {
	h.t.Helper()
	if len(h.old) == 0 {
		return
	}
	l := h.old[h.rnd.Intn(len(h.old))]
	_, installs := h.d.Read(h.d.x, 0)
	was := h.d.tell()
	err := l.Clear(h.d.x)
	if h.rnd.Intn(2) == 0 {
		err = l.Append(h.d.x, h.record())
	}
	h.count("stray", err)
	if err == ok || installs == ok && h.d.tell() != was {
		h.t.Errorf("a fenced writer's call: %d, or it changes something", err)
	}
}

// record is one that there was never.
func (h *history) record() []api.Update {
	h.made++
	u := wide(1+h.rnd.Intn(1+h.rnd.Intn(6)), h.rnd.Intn(127))
	u[0].Ver = 127 + h.made
	return u
}

// append appends a record, or what hangs again.
func (h *history) append() {
	h.t.Helper()
	if !h.ready {
		return
	}
	u := h.record()
	if h.hangs != nil && h.rnd.Intn(3) > 0 {
		u = slices.Clone(h.hangs)
	}
	err := h.l.Append(h.d.x, u)
	h.count("Append", err)
	other := h.hangs != nil && !slices.Equal(u, h.hangs)
	if (err == errBusy) != other {
		h.t.Errorf("Append of %v: %d, while %v hangs", u, err, h.hangs)
	}
	switch err {
	case ok:
		h.acked, h.hangs = append(slices.Clone(h.acked), u), nil
	case errEpoch, errFence, errLost, errDown:
		h.hangs = u
	case errSpace:
		h.clear()
	}
}

// clear clears the log. Behind a Clear that failed the log is cleared again ahead of the next Append, as by who opens it.
func (h *history) clear() {
	h.t.Helper()
	if h.l == nil {
		return
	}
	err := h.l.Clear(h.d.x)
	h.count("Clear", err)
	h.ready = err == ok
	h.doubt = err != ok
	if err == ok {
		h.acked, h.hangs = nil, nil
	}
}

// change goes on to a next config: most often one of nodes that are up, with one that has all.
func (h *history) change() {
	members := h.rnd.Perm(nStores)[:1+h.rnd.Intn(nStores)]
	if h.rnd.Intn(40) > 0 {
		members = slices.DeleteFunc(members, func(m int) bool { return !h.d.Up(m) })
		if !slices.ContainsFunc(members, h.hasAll) {
			return
		}
	}
	if x, err := chain.Next(h.d.x, members); err == ok {
		h.d.x = x
	}
}

// hasAll tells whether a node that is up has all, of the config.
func (h *history) hasAll(i int) bool {
	at := slices.Index(h.d.x.Members, i)
	return at >= 0 && h.d.Up(i) && h.d.Meta(i).Joined == h.d.x.Since[at]
}

// step does one thing.
func (h *history) step() {
	h.t.Helper()
	i := h.rnd.Intn(nStores)
	switch k := h.rnd.Intn(40); {
	case k < 1:
		h.d.Fail(i)
	case k < 4:
		h.d.Arm(i, h.rnd.Intn(9)-1)
	case k < 10:
		h.d.Revive(i, h.rnd.Intn(3)-1, h.rnd.Intn(2) == 0)
	case k < 13 && slices.ContainsFunc(h.d.x.Members, h.hasAll):
		h.change()
	case k < 15:
		h.takeOver()
	case k < 16 || h.l == nil:
		h.open()
	case k < 17:
		h.stray()
	case k < 19 || !h.ready:
		h.clear()
	case k < 26:
		h.peek()
	default:
		h.append()
	}
}

// finish brings all nodes back, and has a last writer open, clear and use the log.
func (h *history) finish() {
	h.t.Helper()
	for i := range nStores {
		h.d.Arm(i, -1)
		h.d.Revive(i, 0, false)
	}
	if !slices.ContainsFunc(h.d.x.Members, h.hasAll) {
		return
	}
	h.d.x = h.d.next(2, 1, 0)
	h.peek()
	h.takeOver()
	h.clear()
	for range 5 {
		h.append()
		h.peek()
		h.stray()
	}
	h.count("finish", ok)
}

// P15.4: long rows of openings, each of which clears the log ahead of its first Append, of records, clearings, writers that are fenced and go on all the same, nodes that fail, also in the midst of a call, and come back, and next configs: a log that is opened has what was appended since it was cleared, in order, and behind that at most what hangs.
func TestHistories(t *testing.T) {
	answers := map[string]int{}
	for seed := range int64(500) {
		h := newHistory(t, seed, answers)
		for n := 0; n < 200 && !h.lost && !t.Failed(); n++ {
			h.step()
		}
		if !h.lost {
			h.finish()
		}
		if t.Failed() {
			t.Fatalf("seed %d", seed)
		}
	}
	for what, most := range map[string]int{"opened, as appended 0": 5000, "opened, with what hangs 0": 50, "opened, cleared by a Clear that failed 0": 20, "Append 0": 3000, "Append 24": 1000, "Append 26": 300, "Append 12": 100, "Clear 0": 3000, "Clear 24": 500, "Fence 0": 500, "stray 22": 300, "finish 0": 200} {
		if answers[what] < most {
			t.Errorf("the histories came to %s %d times only", what, answers[what])
		}
	}
}

// P15.4, by all cases of one kind: the third record's Append fails at each node's write of each frame, is revived in every way or left, and the log is opened by each config that there may be, behind a fence of its writer and without: the two records ahead are there, and behind them the third one or nothing; it is cleared, and its records are never there again.
func TestWholeOrNot(t *testing.T) {
	first, second, third := wide(2, 1), wide(1, 2), wide(3, 3)
	seen := map[int]int{}
	for node := range nStores {
		for k := range 3 {
			for _, way := range ways() {
				d := newDisk(t, nStores)
				l := d.opened(0, 0, 1, 1)
				d.cleared(l)
				d.appended(l, first, second)
				d.fail(l, third, node, k)
				if way.revived {
					wantErr(t, "Revive", d.Revive(node, way.keep, way.torn), ok)
				}
				members := slices.DeleteFunc(slices.Clone(way.members), func(i int) bool { return !d.Up(i) })
				if len(members) == 0 {
					continue
				}
				d.x = d.next(members...)
				if way.fenced {
					wantErr(t, "Fence", d.Fence(d.x, 0, 2), ok)
				}
				seen[wantSecond(d, first, second, third)]++
			}
		}
	}
	if seen[2] < 50 || seen[3] < 50 {
		t.Errorf("so many openings have so many records: %v", seen)
	}
}

// way is how it goes on behind an Append that failed.
type way struct {
	members       []int
	fenced        bool
	revived, torn bool
	keep          int
}

// ways are all of them.
func ways() []way {
	var l []way
	for _, members := range [][]int{{0}, {1}, {2}, {0, 1}, {0, 2}, {1, 2}, {0, 1, 2}} {
		for _, fenced := range []bool{false, true} {
			l = append(l, way{members, fenced, false, false, 0}, way{members, fenced, true, false, 0}, way{members, fenced, true, true, 0}, way{members, fenced, true, false, 1})
		}
	}
	return l
}

// wantSecond has a second writer open a log, which has the first two records, or all three; and clear and use it. It tells how many there were.
func wantSecond(d *disk, first, second, third []api.Update) int {
	d.t.Helper()
	l, records, err := wal.Open(d.Chain, d.x, 0, 1, 1)
	all := [][]api.Update{first, second, third}
	if err != ok || len(records) < 2 || len(records) > 3 || !equal(records, all[:len(records)]) {
		d.t.Fatalf("Open: %v, %d", records, err)
	}
	d.cleared(l)
	start := 2 + len(records) + 1
	d.opened(0, 2, 1, start)
	var more [][]api.Update
	for _, n := range []int{1, 4, 1, 1, 2, 1} {
		u := wide(n, 50+len(more))
		d.appended(l, u)
		more = append(more, u)
		d.opened(0, 2, 1, start, more...)
	}
	for i := range nStores {
		d.Revive(i, 1, false)
	}
	d.x = d.next(2, 1, 0)
	d.opened(0, 2, 1, start, more...)
	d.wantNodes(0, start, more...)
	return len(records)
}

// P15.4: what hung at some nodes alone, and wasn't there when the log was opened and cleared, doesn't come up behind that, whichever node is read.
func TestNeverComesUp(t *testing.T) {
	for n := 1; n <= 4; n++ {
		for k := range n {
			d := newDisk(t, 2)
			l := d.opened(1, 1, 1, 1)
			d.cleared(l)
			d.appended(l, wide(1, 1))
			hung := wide(n, 2)
			wantErr(t, "Arm", d.Arm(1, k), ok)
			wantErr(t, "Append", l.Append(d.x, hung), errDown)
			wantErr(t, "Revive", d.Revive(1, 0, false), ok)
			other := d.opened(1, 0, 1, 2, wide(1, 1))
			d.cleared(other)
			wantLog(t, "Clear", other, 0, room, 4)
			for i := range 2 {
				if d.Block(i, 96).Data != "\x04" {
					t.Errorf("node %d: the head is %x", i, d.Block(i, 96).Data)
				}
			}
			d.appended(other, wide(1, 3))
			d.wantNodes(1, 4, wide(1, 3))
			d.x = d.next(0)
			d.opened(1, 2, 1, 4, wide(1, 3))
			d.appended(other, hung)
			d.opened(1, 2, 1, 4, wide(1, 3), hung)
		}
	}
}
