package cache_test

import (
	"math/rand"
	"slices"
	"testing"

	"lagoon/api"
)

// history is what was done to a cache, by calls that went well.
type history struct {
	*box
	rnd       *rand.Rand
	committed [][]api.Update // all of them, from the beginning on
	logged    int            // how many of them are in the log
	clean     map[int]int    // how many had been committed when a block was clean last
	last      map[int]int    // the version that is known
	readied   int            // how often a block was ready
	waited    int            // how often a dirty one wasn't
	fell      int            // how often a Load had a version fall
}

// newHistory is one of a new cache, in which some blocks are known.
func newHistory(t *testing.T, seed int64) *history {
	t.Helper()
	h := &history{box: newBox(t), rnd: rand.New(rand.NewSource(seed)), clean: map[int]int{}, last: map[int]int{}}
	for i := range 1 + h.rnd.Intn(12) {
		h.load(1 + i*7%lastHome)
	}
	return h
}

// some is a block that is known.
func (h *history) some() int {
	var l []int
	for b := range h.last {
		l = append(l, b)
	}
	slices.Sort(l)
	return l[h.rnd.Intn(len(l))]
}

// load loads a block, with any version, and takes up what is known then.
func (h *history) load(b int) {
	h.t.Helper()
	ver := h.rnd.Intn(9)
	data := mixed(min(ver, 1)*h.rnd.Intn(9), ver)
	if err := h.Load(b, value(ver, data)); err != ok {
		wantErr(h.t, "Load of a block that may be dirty", err, errBusy)
		return
	}
	if ver < h.last[b] {
		h.fell++
	}
	h.last[b], h.clean[b] = ver, len(h.committed)
}

// commit commits a record of some blocks.
func (h *history) commit() {
	h.t.Helper()
	var blocks []int
	for range 1 + h.rnd.Intn(4) {
		blocks = append(blocks, h.some())
	}
	slices.Sort(blocks)
	var u []api.Update
	for _, b := range slices.Compact(blocks) {
		u = append(u, api.Update{Block: b, Ver: h.last[b] + 1, Data: mixed(h.rnd.Intn(9), b)})
	}
	wantErr(h.t, "Commit", h.Commit(u), ok)
	for _, x := range u {
		h.last[x.Block] = x.Ver
	}
	h.committed = append(h.committed, u)
}

// step does one thing.
func (h *history) step() {
	h.t.Helper()
	switch k := h.rnd.Intn(20); {
	case k < 3:
		h.load(h.some())
	case k < 4:
		h.load(1 + h.rnd.Intn(lastHome))
	case k < 9:
		h.commit()
	case k < 15:
		if h.Logged() {
			h.logged++
		}
	default:
		b := h.some()
		if h.Clean(b, h.last[b]-h.rnd.Intn(2)) {
			h.wantAllLogged("Clean", b)
			h.clean[b] = len(h.committed)
		}
	}
}

// brings is the numbers of the records that brought a block since it was clean.
func (h *history) brings(b int) []int {
	var l []int
	for i := h.clean[b]; i < len(h.committed); i++ {
		if slices.ContainsFunc(h.committed[i], func(x api.Update) bool { return x.Block == b }) {
			l = append(l, i)
		}
	}
	return l
}

// wantAllLogged wants all records that brought a block since it was clean to be in the log, and some to have brought it.
func (h *history) wantAllLogged(what string, b int) {
	h.t.Helper()
	l := h.brings(b)
	if len(l) == 0 || l[len(l)-1] >= h.logged {
		h.t.Errorf("%s: block %d was brought by the records %v since it was clean; %d are in the log", what, b, l, h.logged)
	}
}

// wantKept wants what P16.4 says.
func (h *history) wantKept() {
	h.t.Helper()
	ready := h.Ready()
	h.readied += len(ready)
	for _, x := range ready {
		h.wantAllLogged("Ready", x.Block)
	}
	anyDirty := false
	for b := range h.last {
		l := h.brings(b)
		anyDirty = anyDirty || len(l) > 0
		if len(l) > 0 && l[len(l)-1] >= h.logged {
			h.waited++
			continue
		}
		if is := slices.ContainsFunc(ready, func(x api.Update) bool { return x.Block == b }); is != (len(l) > 0) {
			h.t.Errorf("block %d, brought by the records %v since it was clean, with %d in the log: ready %t", b, l, h.logged, is)
		}
	}
	h.wantDirty(anyDirty)
	if h.logged == len(h.committed) {
		if u, is := h.First(); is {
			h.t.Errorf("First: %s; all were logged", shown(u))
		}
	} else {
		h.wantFirst(h.committed[h.logged])
	}
	d, has := h.Disk()
	for b, ver := range h.last {
		if !has[b] || d[b].Ver != ver {
			h.t.Errorf("block %d: the version %d, %t; want %d", b, d[b].Ver, has[b], ver)
		}
	}
}

// P16.4: long rows of calls: a block is ready only when all records that brought it since it was clean were logged, and then; records are first in the order of their commits; nothing is forgotten, and no version falls but by a Load of a block that isn't dirty.
func TestHistory(t *testing.T) {
	readied, waited, fell := 0, 0, 0
	for seed := range int64(60) {
		h := newHistory(t, seed)
		for step := 0; step < 500 && !t.Failed(); step++ {
			h.step()
			h.wantKept()
		}
		if t.Failed() {
			t.Fatalf("seed %d", seed)
		}
		readied, waited, fell = readied+h.readied, waited+h.waited, fell+h.fell
	}
	if readied < 10000 || waited < 10000 || fell < 200 {
		t.Errorf("%d blocks were ready, %d weren't yet, %d versions fell only", readied, waited, fell)
	}
}

// P16.4: a block that was changed behind a record of others waits for its own records alone, and for all of these.
func TestReadyOwnRecords(t *testing.T) {
	x := newBox(t, 5, 6, 7)
	a, b, c, d := of(1, 1, 5), of(1, 1, 5, 6), of(2, 3, 5, 7), of(1, 4, 7)
	b[0].Ver, c[1].Ver, d[0].Ver = 2, 1, 2
	c[0].Ver = 3
	x.committed(a, b, c, d)
	x.logged(a)
	x.wantReady()
	x.logged(b)
	x.wantReady(b[1])
	x.logged(c)
	x.wantReady(c[0], b[1])
	x.cleaned(5, 3)
	x.committed(one(5, 4, "e"))
	x.wantReady(b[1])
	x.logged(d)
	x.wantReady(b[1], d[0])
	x.emptied([][]api.Update{one(5, 4, "e")}, one(5, 4, "e")[0], b[1], d[0])
}
