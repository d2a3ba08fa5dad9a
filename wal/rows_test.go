package wal_test

import (
	"math/rand"
	"slices"
	"testing"

	"lagoon/api"
	"lagoon/wal"
)

// twins are two disks that have the same done to them, one by logs and one by plain logs.
type twins struct {
	t       *testing.T
	rnd     *rand.Rand
	d, twin *disk
	xs      []api.Config // all configs so far
	logs    []pair
	answers map[string]int // how often each call came to each answer
}

// pair is a log, and the plain one beside it.
type pair struct {
	l *wal.Log
	p *plain
}

// newTwins are those of a new disk.
func newTwins(t *testing.T, seed int64, answers map[string]int) *twins {
	t.Helper()
	rnd := rand.New(rand.NewSource(seed))
	n := 1 + rnd.Intn(nStores)
	w := &twins{t: t, rnd: rnd, d: newDisk(t, n), twin: newDisk(t, n), answers: answers}
	w.xs = []api.Config{w.d.x}
	return w
}

// config is the newest one, or now and then one of before, or none.
func (w *twins) config() api.Config {
	switch w.rnd.Intn(30) {
	case 0:
		return w.xs[w.rnd.Intn(len(w.xs))]
	case 1:
		return api.Config{}
	}
	return w.xs[len(w.xs)-1]
}

// change goes on to a next config of nodes that are up.
func (w *twins) change() {
	members := slices.DeleteFunc(w.rnd.Perm(w.d.Len()), func(i int) bool { return !w.d.Up(i) })
	if len(members) == 0 {
		return
	}
	x := w.xs[len(w.xs)-1]
	x = config(x.Epoch+1, members[:1+w.rnd.Intn(len(members))], nil)
	for _, i := range x.Members {
		since := w.d.Meta(i).Joined
		if w.rnd.Intn(3) == 0 {
			since = x.Epoch
		}
		x.Since = append(x.Since, max(since, 1))
	}
	w.xs = append(w.xs, x)
}

// power has something done to a node's power.
func (w *twins) power() {
	i := w.rnd.Intn(w.d.Len())
	switch k, torn := w.rnd.Intn(9)-1, w.rnd.Intn(2) == 0; w.rnd.Intn(5) {
	case 0:
		wantErr(w.t, "Fail", w.d.Fail(i), w.twin.Fail(i))
	case 1:
		wantErr(w.t, "Arm", w.d.Arm(i, k), w.twin.Arm(i, k))
	default:
		wantErr(w.t, "Revive", w.d.Revive(i, k%2, torn), w.twin.Revive(i, k%2, torn))
	}
}

// count takes up an answer.
func (w *twins) count(what string, got, want api.Errno) {
	w.t.Helper()
	wantErr(w.t, what, got, want)
	w.answers[what+" "+string(rune('0'+got/10))+string(rune('0'+got%10))]++
}

// open opens a log, now and then of numbers that are none.
func (w *twins) open() {
	w.t.Helper()
	x, owner, writer, gen := w.config(), w.rnd.Intn(3), w.rnd.Intn(3), 1+w.rnd.Intn(4)
	switch w.rnd.Intn(40) {
	case 0:
		owner = 3
	case 1:
		writer = -1
	case 2:
		gen = 0
	}
	l, records, err := wal.Open(w.d.Chain, x, owner, writer, gen)
	p, want := plainOpen(w.twin.Chain, x, owner, writer, gen)
	w.count("Open", err, want)
	if err != ok || want != ok {
		return
	}
	if !equal(records, p.records) {
		w.t.Errorf("Open: the records %v; want %v", records, p.records)
	}
	w.logs = append(w.logs, pair{l, p})
	w.logs = w.logs[max(0, len(w.logs)-5):]
}

// record is what hangs, or any record, or now and then none.
func (w *twins) record(p *plain) []api.Update {
	switch w.rnd.Intn(20) {
	case 0:
		return sized(longest+1+w.rnd.Intn(5), w.rnd.Intn(99))
	case 1:
		return one(w.rnd.Intn(100)-10, w.rnd.Intn(3)-1, mixed(w.rnd.Intn(45), 3))
	case 2:
		return wide(1+w.rnd.Intn(room), w.rnd.Intn(99))
	}
	if p.hangs != nil && w.rnd.Intn(3) > 0 {
		return slices.Clone(p.hangs)
	}
	return wide(1+w.rnd.Intn(4), w.rnd.Intn(99))
}

// write writes into a block of a log what may be no frame's.
func (w *twins) write() {
	b := logBase + w.rnd.Intn(3*logBlocks)
	s := mixed(w.rnd.Intn(45), w.rnd.Intn(99))
	if w.rnd.Intn(2) == 0 {
		s = form(w.rnd.Intn(1 << w.rnd.Intn(42)))
	}
	x := w.config()
	wantErr(w.t, "Write", w.d.Write(x, b, s, 1, maxCount), w.twin.Write(x, b, s, 1, maxCount))
}

// step does one thing to both.
func (w *twins) step() {
	w.t.Helper()
	var p pair
	if len(w.logs) > 0 {
		p = w.logs[w.rnd.Intn(len(w.logs))]
	}
	switch x, k := w.config(), w.rnd.Intn(40); {
	case k < 6:
		w.power()
	case k < 8:
		w.change()
	case k < 9:
		server, gen := w.rnd.Intn(3), 1+w.rnd.Intn(4)
		wantErr(w.t, "Fence", w.d.Fence(x, server, gen), w.twin.Fence(x, server, gen))
	case k < 10:
		w.write()
	case k < 14 || p.l == nil:
		w.open()
	case k < 18:
		w.count("Clear", p.l.Clear(x), p.p.clear(x))
	default:
		u := w.record(p.p)
		w.count("Append", p.l.Append(x, u), p.p.append(x, u))
	}
}

// wantAlike holds all that the logs and the disk tell against the plain ones.
func (w *twins) wantAlike() {
	w.t.Helper()
	for _, p := range w.logs {
		wantLog(w.t, "a log", p.l, len(p.p.records), p.p.room(), p.p.next())
	}
	if w.d.tell() != w.twin.tell() {
		w.t.Error("the disks aren't alike")
	}
}

// P15.1 to P15.3: long rows of all calls, of several logs at once, with nodes that fail and come back, configs of before, fences, and blocks that others write, against the plain log: what is answered, told and written.
func TestRows(t *testing.T) {
	answers := map[string]int{}
	for seed := range int64(150) {
		w := newTwins(t, seed, answers)
		for step := 0; step < 400 && !t.Failed(); step++ {
			w.step()
			w.wantAlike()
		}
		if t.Failed() {
			t.Fatalf("seed %d", seed)
		}
	}
	for what, most := range map[string]int{"Open 00": 500, "Open 02": 100, "Open 11": 20, "Open 21": 20, "Open 23": 20, "Open 24": 100, "Append 00": 500, "Append 02": 500, "Append 12": 50, "Append 21": 20, "Append 22": 50, "Append 23": 20, "Append 24": 100, "Append 26": 100, "Clear 00": 500, "Clear 02": 100, "Clear 22": 50, "Clear 24": 100} {
		if answers[what] < most {
			t.Errorf("the rows came to %s %d times only", what, answers[what])
		}
	}
}
