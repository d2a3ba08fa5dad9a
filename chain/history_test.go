package chain_test

import (
	"math/rand"
	"slices"
	"strconv"
	"testing"

	"lagoon/api"
	"lagoon/chain"
)

// try is a Write that was asked for; its number is what it writes, so each is known wherever it stands.
type try struct {
	block  int
	fenced bool // of a generation that was fenced by then
}

// history is a chain whose configs are each Next of the one before it, and what its calls have answered so far.
type history struct {
	t       *testing.T
	rnd     *rand.Rand
	c       *chain.Chain
	x       api.Config
	tries   []try       // 0 is what stands in a new block
	floors  map[int]int // of each block the last try that was acknowledged or told
	seqs    map[int]int // of each block the number that was told last
	fences  [nServers]int
	answers map[string]int // how often each call came to each answer
	lost    bool           // nobody has all any more
}

// newHistory is that of a new chain.
func newHistory(t *testing.T, seed int64, answers map[string]int) *history {
	t.Helper()
	return &history{t: t, rnd: rand.New(rand.NewSource(seed)), c: newChain(t, nStores), x: first(t, nStores), tries: []try{{}}, floors: map[int]int{}, seqs: map[int]int{}, answers: answers}
}

// blocksUsed are the blocks that are written.
func blocksUsed() []int {
	return []int{0, 5, 77, 127}
}

// count takes up an answer.
func (h *history) count(call string, err api.Errno) {
	h.answers[call+" "+strconv.Itoa(int(err))]++
	h.lost = h.lost || err == errLost
}

// write asks for a Write, of a generation that may be fenced.
func (h *history) write(b, server, gen int) {
	h.t.Helper()
	id := len(h.tries)
	h.tries = append(h.tries, try{b, gen < h.fences[server]})
	_, ready := h.c.Read(h.x, b)
	before := tell(h.c)
	err := h.c.Write(h.x, b, strconv.Itoa(id), server, gen)
	h.count("Write", err)
	if err == ok {
		h.floors[b] = id
	}
	if err == errStale || err == errWorn {
		h.t.Errorf("Write of a row of configs: %d", err)
	}
	if !h.tries[id].fenced {
		return
	}
	if err == ok || ready == ok && (err != errFence || tell(h.c) != before) {
		h.t.Errorf("Write of server %d, generation %d, fenced at %d: %d, or it changes something", server, gen, h.fences[server], err)
	}
}

// read reads a block.
func (h *history) read(b int) {
	h.t.Helper()
	x, err := h.c.Read(h.x, b)
	h.count("Read", err)
	if err != ok {
		return
	}
	id, _ := strconv.Atoi(x.Data)
	if id < h.floors[b] || x.Seq < h.seqs[b] {
		h.t.Errorf("Read of block %d tells %s, of try %d, behind %d, number %d", b, showCell(x), id, h.floors[b], h.seqs[b])
	}
	if id > 0 && (h.tries[id].block != b || h.tries[id].fenced) || (id == 0) != (x == none) {
		h.t.Errorf("Read of block %d tells %s, which was fenced, or of another block", b, showCell(x))
	}
	h.floors[b], h.seqs[b] = id, x.Seq
}

// fence fences a server, and wants all members to have the same blocks.
func (h *history) fence(server, gen int) {
	h.t.Helper()
	err := h.c.Fence(h.x, server, gen)
	h.count("Fence", err)
	if err != ok {
		return
	}
	h.fences[server] = max(h.fences[server], gen)
	now := tell(h.c)
	for _, m := range h.x.Members {
		if now.nodes[m].blocks != now.nodes[h.x.Members[0]].blocks {
			h.t.Errorf("behind a Fence nodes %v aren't alike", h.x.Members)
		}
	}
}

// hasAll tells whether a node that is up has all, of the config.
func (h *history) hasAll(i int) bool {
	at := slices.Index(h.x.Members, i)
	return at >= 0 && h.c.Up(i) && h.c.Meta(i).Joined == h.x.Since[at]
}

// change goes on to a next config: most often one of nodes that are up, with one that has all.
func (h *history) change() {
	members := h.rnd.Perm(nStores)[:1+h.rnd.Intn(nStores)]
	if h.rnd.Intn(40) > 0 {
		members = slices.DeleteFunc(members, func(m int) bool { return !h.c.Up(m) })
		if !slices.ContainsFunc(members, h.hasAll) {
			return
		}
	}
	if y, err := chain.Next(h.x, members); err == ok {
		h.x = y
		h.count("Next", err)
	}
}

// step does one thing.
func (h *history) step() {
	h.t.Helper()
	i, b := h.rnd.Intn(nStores), blocksUsed()[h.rnd.Intn(4)]
	server := h.rnd.Intn(nServers)
	switch h.rnd.Intn(14) {
	case 0:
		h.c.Fail(i)
	case 1, 2:
		h.c.Arm(i, h.rnd.Intn(9)-1)
	case 3, 4, 5:
		h.c.Revive(i, h.rnd.Intn(3)-1, h.rnd.Intn(2) == 0)
	case 6, 7:
		h.change()
	case 8:
		h.fence(server, h.fences[server]+h.rnd.Intn(2)+1)
	case 9, 10:
		h.read(b)
	default:
		h.write(b, server, max(1, h.fences[server]+h.rnd.Intn(3)-1))
	}
	h.wantNoFenced()
}

// wantNoFenced wants no node to have what a fenced Write asked for.
func (h *history) wantNoFenced() {
	h.t.Helper()
	for i := range nStores {
		for _, b := range blocksUsed() {
			id, _ := strconv.Atoi(h.c.Block(i, b).Data)
			if h.tries[id].fenced {
				h.t.Errorf("node %d has in block %d what a fenced Write asked for", i, b)
			}
		}
	}
}

// finish brings all nodes back, and reads all blocks.
func (h *history) finish() {
	h.t.Helper()
	for i := range nStores {
		h.c.Arm(i, -1)
		h.c.Revive(i, 0, false)
	}
	if !slices.ContainsFunc(h.x.Members, h.hasAll) {
		return
	}
	h.x = next(h.t, h.x, 2, 1, 0)
	for _, b := range blocksUsed() {
		h.read(b)
	}
	for server := range nServers {
		h.write(5, server, max(1, h.fences[server]-1))
		h.write(5, server, h.fences[server]+1)
		h.read(5)
	}
}

// P8.6, P8.7: long rows of calls, each config Next of the one before it and used only till the next one is, with nodes that fail, also in the midst of a call, and come back: nothing acknowledged is lost, no Read goes back, no number falls, and what is fenced is never written; behind a Fence all members have the same.
func TestHistories(t *testing.T) {
	answers := map[string]int{}
	for seed := range int64(400) {
		h := newHistory(t, seed, answers)
		for n := 0; n < 150 && !h.lost; n++ {
			h.step()
		}
		if !h.lost {
			h.finish()
		}
		if t.Failed() {
			t.Fatalf("seed %d", seed)
		}
	}
	for _, call := range []string{"Write 0", "Write 22", "Write 24", "Read 0", "Read 24", "Fence 0", "Fence 24", "Next 0"} {
		if answers[call] < 1000 {
			t.Errorf("the rows came to %s %d times only", call, answers[call])
		}
	}
}

// P8.6, by rows written down: a Write that answered OK is told by each next config, whoever of its members is left, and whoever comes anew; one that didn't may be told, and then isn't taken back.
func TestNothingLost(t *testing.T) {
	for left := range nStores {
		c, x := newChain(t, 3), first(t, 3)
		wantErr(t, "Write", c.Write(x, 5, "kept", 0, 1), ok)
		k, l := (left+1)%3, (left+2)%3
		wantErr(t, "Fail", c.Fail(k), ok)
		wantErr(t, "Fail", c.Fail(l), ok)
		y := next(t, x, left)
		wantRead(t, c, y, 5, api.Cell{Seq: 1, Data: "kept"}, 0)
		wantErr(t, "Write", c.Write(y, 5, "then", 0, 1), ok)
		wantErr(t, "Revive", c.Revive(k, 0, true), ok)
		wantErr(t, "Revive", c.Revive(l, 0, true), ok)
		z := next(t, y, l, k, left)
		wantErr(t, "Write", c.Write(z, 6, "both", 0, 1), ok)
		wantErr(t, "Fail", c.Fail(left), ok)
		w := next(t, z, l, left)
		wantRead(t, c, w, 5, none, 24)
		w = next(t, w, k, l)
		wantRead(t, c, w, 5, api.Cell{Seq: 2, Data: "then"}, 0)
		wantRead(t, c, w, 6, api.Cell{Seq: 1, Data: "both"}, 0)
	}
	for kept := range 2 {
		c, x := newChain(t, 3), first(t, 3)
		wantErr(t, "Arm", c.Arm(2, 0), ok)
		wantErr(t, "Write that isn't acknowledged", c.Write(x, 5, "half", 0, 1), errDown)
		y := next(t, x, 0, 1)
		wantRead(t, c, y, 5, api.Cell{Seq: 1, Data: "half"}, 0)
		wantErr(t, "Revive", c.Revive(2, kept, false), ok)
		z := next(t, y, 2, 1)
		wantRead(t, c, z, 5, api.Cell{Seq: 1, Data: "half"}, 0)
		wantRead(t, c, next(t, z, 2), 5, api.Cell{Seq: 1, Data: "half"}, 0)
	}
}

// P8.7, by rows written down: a fence is taken over by whoever comes anew, and holds where those that had it first are gone.
func TestFencedOn(t *testing.T) {
	for server := range nServers {
		c, x := newChain(t, 3), first(t, 2)
		wantErr(t, "Write", c.Write(x, 5, "a", server, 4), ok)
		wantErr(t, "Fence", c.Fence(x, server, 5), ok)
		y := next(t, x, 1, 2)
		wantErr(t, "Write of a fenced generation", c.Write(y, 5, "b", server, 4), errFence)
		wantErr(t, "Fail", c.Fail(1), ok)
		z := next(t, y, 2)
		for range 2 {
			for b := range nBlocks {
				wantErr(t, "Write of a fenced generation", c.Write(z, b, "b", server, 4), errFence)
			}
			wantErr(t, "Fail", c.Fail(2), ok)
			wantErr(t, "Revive", c.Revive(2, 0, true), ok)
		}
		wantErr(t, "Write of the next generation", c.Write(z, 5, "c", server, 5), ok)
		wantErr(t, "Write of another server", c.Write(z, 5, "d", (server+1)%3, 1), ok)
		wantRead(t, c, z, 5, api.Cell{Seq: 3, Data: "d"}, 0)
	}
}
