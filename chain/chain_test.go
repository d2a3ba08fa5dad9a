package chain_test

import (
	"fmt"
	"math"
	"slices"
	"testing"

	"lagoon/api"
	"lagoon/chain"
)

// none is a block's first value.
var none = api.Cell{}

// wantRead holds what a Read answers against what it should.
func wantRead(t *testing.T, c *chain.Chain, x api.Config, b int, want api.Cell, wantErr api.Errno) {
	t.Helper()
	if got, err := c.Read(x, b); got != want || err != wantErr {
		t.Errorf("Read(%s, %d): %s, %d; want %s, %d", show(x), b, showCell(got), err, showCell(want), wantErr)
	}
}

// wantBlock holds a node's block against what it should be.
func wantBlock(t *testing.T, c *chain.Chain, i, b int, want api.Cell) {
	t.Helper()
	if got := c.Block(i, b); got != want {
		t.Errorf("Block(%d, %d): %s; want %s", i, b, showCell(got), showCell(want))
	}
}

// told is all that a chain tells.
type told struct {
	len    int
	up     [nStores]bool
	nodes  [nStores]state
	writes [nStores]int
}

// tell is what a chain tells.
func tell(c *chain.Chain) told {
	x := told{len: c.Len()}
	for i := range nStores {
		x.up[i], x.writes[i], x.nodes[i].meta = c.Up(i), c.Writes(i), c.Meta(i)
		for b := range nBlocks {
			x.nodes[i].blocks[b] = c.Block(i, b)
		}
	}
	return x
}

// wantTold wants a chain to tell what it told.
func wantTold(t *testing.T, what string, c *chain.Chain, want told) {
	t.Helper()
	if tell(c) != want {
		t.Errorf("%s: the chain tells other things than it should", what)
	}
}

// wantWrites holds how often each node has written against what it should be.
func wantWrites(t *testing.T, what string, c *chain.Chain, want ...int) {
	t.Helper()
	for i, n := range want {
		if c.Writes(i) != n {
			t.Errorf("%s: Writes(%d): %d; want %d", what, i, c.Writes(i), n)
		}
	}
}

// The chapter's examples.
func TestExamples(t *testing.T) {
	c, x := newChain(t, 3), first(t, 3)
	wantErr(t, "Write a", c.Write(x, 5, "a", 0, 1), 0)
	wantRead(t, c, x, 5, api.Cell{Seq: 1, Data: "a"}, 0)
	wantErr(t, "Arm", c.Arm(1, 0), 0)
	wantErr(t, "Write b", c.Write(x, 5, "b", 0, 1), 24)
	wantBlock(t, c, 0, 5, api.Cell{Seq: 2, Data: "b"})
	wantBlock(t, c, 2, 5, api.Cell{Seq: 1, Data: "a"})
	wantRead(t, c, x, 5, none, 24)
	y, err := chain.Next(x, []int{0, 2})
	wantConfig(t, "Next(x, 0 2)", y, err, config(2, []int{0, 2}, []int{1, 1}), 0)
	wantRead(t, c, y, 5, api.Cell{Seq: 1, Data: "a"}, 0)
	wantErr(t, "Fence", c.Fence(y, 0, 2), 0)
	wantRead(t, c, y, 5, api.Cell{Seq: 2, Data: "b"}, 0)
	wantErr(t, "Write c", c.Write(y, 5, "c", 0, 1), 22)
	wantErr(t, "Revive", c.Revive(1, 0, false), 0)
	wantBlock(t, c, 1, 5, api.Cell{Seq: 1, Data: "a"})
	z, err := chain.Next(y, []int{0, 2, 1})
	wantConfig(t, "Next(y, 0 2 1)", z, err, config(3, []int{0, 2, 1}, []int{1, 1, 3}), 0)
	wantRead(t, c, z, 5, api.Cell{Seq: 2, Data: "b"}, 0)
	wantBlock(t, c, 1, 5, api.Cell{Seq: 2, Data: "b"})
	if m := c.Meta(1); m != (api.Meta{Epoch: 3, Joined: 3, Fences: [3]int{2, 0, 0}}) {
		t.Errorf("Meta(1): %v", m)
	}
	wantRead(t, c, x, 5, none, 21)
}

// P8.2: New of each n that may be, and what a new chain tells; of all others ErrRange, and no chain.
func TestNew(t *testing.T) {
	for _, n := range append(farOff(), -1, 0, 4) {
		if c, err := chain.New(n); c != nil || err != 2 {
			t.Errorf("New(%d): %v, %d; want nil, 2", n, c, err)
		}
	}
	for n := 1; n <= 3; n++ {
		c := newChain(t, n)
		var want told
		want.len = n
		for i := range n {
			want.up[i], want.writes[i] = true, 2
			want.nodes[i].meta = api.Meta{Epoch: 1, Joined: 1}
		}
		wantTold(t, "a new chain", c, want)
		for _, i := range append(farOff(), -1, n, 3) {
			if c.Up(i) || c.Block(i, 0) != none || c.Meta(i) != (api.Meta{}) || c.Writes(i) != 0 {
				t.Errorf("of %d nodes: node %d is there", n, i)
			}
		}
		for b := range nBlocks {
			wantRead(t, c, first(t, n), b, none, 0)
		}
		wantTold(t, "a new chain that was read", c, want)
		for i := range n {
			wantErr(t, "Fail", c.Fail(i), 0)
			wantErr(t, "Revive", c.Revive(i, 0, true), 0)
		}
		wantTold(t, "a new chain whose nodes came back", c, want)
		if s := chain.StoreOf(c, 0); s.Len() != 258 {
			t.Errorf("a store of %d sectors; want 258", s.Len())
		}
	}
}

// strange is a chain of two nodes in which all refusals behind ErrRange are near: node 1 is down.
func strange(t *testing.T) *chain.Chain {
	t.Helper()
	c := newChain(t, 2)
	wantErr(t, "Write", c.Write(first(t, 2), 3, "x", 0, 5), ok)
	wantErr(t, "Fence", c.Fence(first(t, 2), 0, 5), ok)
	wantErr(t, "Fail", c.Fail(1), ok)
	return c
}

// P8.3, P8.4: configs that may not be of this chain, those of three nodes on a chain of fewer too: ErrRange, ahead of what installing answers (R2); nothing is changed (R4), nothing is told (R3).
func TestConfigRange(t *testing.T) {
	c := strange(t)
	before := tell(c)
	amiss := append(configsAmiss(), first(t, 3), config(1, []int{2}, []int{1}), config(1, []int{0, 2}, []int{1, 1}), config(1, []int{2, 1, 0}, []int{1, 1, 1}), config(4, []int{1, 0, 2}, []int{1, 1, 4}))
	for _, x := range amiss {
		what := fmt.Sprintf("of a config of epoch %d, %d members", x.Epoch, len(x.Members))
		wantErr(t, "Write "+what, c.Write(x, 3, "y", 0, 5), 2)
		wantErr(t, "Fence "+what, c.Fence(x, 0, 6), 2)
		v, err := c.Read(x, 3)
		wantErr(t, "Read "+what, err, 2)
		if v != none {
			t.Errorf("Read %s: %v beside the error", what, v)
		}
	}
	wantTold(t, "refused configs", c, before)
	three := newChain(t, 3)
	before = tell(three)
	for _, x := range configsAmiss() {
		wantErr(t, "Write of "+fmt.Sprint(x.Epoch, len(x.Members)), three.Write(x, 3, "y", 0, 5), 2)
		wantErr(t, "Fence", three.Fence(x, 0, 6), 2)
		_, err := three.Read(x, 3)
		wantErr(t, "Read", err, 2)
	}
	wantTold(t, "refused configs", three, before)
}

// P8.3, P8.4: each other argument at and beside its bounds: ErrRange ahead of what installing answers (R2), nothing is changed (R4); what may be is done.
func TestArgumentRange(t *testing.T) {
	noBlocks := append(farOff(), -1, 128, 129, 255, 1<<32)
	noServers := append(farOff(), -1, 3, 4, 1<<32)
	noGens := []int{0, -1, maxCount + 1, 1 << 41, 1<<40 + 1<<32, math.MinInt, math.MaxInt}
	x, down := first(t, 2), first(t, 2)
	c, gone := newChain(t, 2), strange(t)
	before, goneBefore := tell(c), tell(gone)
	refused := func(b int, data string, server, gen int) {
		t.Helper()
		what := fmt.Sprintf("Write(%d, %d bytes, %d, %d)", b, len(data), server, gen)
		wantErr(t, what, c.Write(x, b, data, server, gen), 2)
		wantErr(t, what+" on one that is down", gone.Write(down, b, data, server, gen), 2)
	}
	for _, b := range noBlocks {
		refused(b, "x", 0, 1)
		wantRead(t, c, x, b, none, 2)
		wantRead(t, gone, down, b, none, 2)
	}
	for _, n := range []int{45, 46, 51, 64, 256, 1 << 20} {
		refused(5, mixed(n, 1), 0, 1)
	}
	for _, server := range noServers {
		refused(5, "x", server, 1)
		wantErr(t, "Fence", c.Fence(x, server, 1), 2)
		wantErr(t, "Fence on one that is down", gone.Fence(down, server, 1), 2)
	}
	for _, gen := range noGens {
		refused(5, "x", 1, gen)
		for server := range nServers {
			wantErr(t, "Fence", c.Fence(x, server, gen), 2)
			wantErr(t, "Fence on one that is down", gone.Fence(down, server, gen), 2)
		}
	}
	wantTold(t, "refused arguments", c, before)
	wantTold(t, "refused arguments", gone, goneBefore)
	wantErr(t, "Write", gone.Write(down, 3, "y", 0, 1), 24)
	wantErr(t, "Fence", gone.Fence(down, 0, 6), 24)
	wantRead(t, gone, down, 3, none, 24)
}

// P8.3: what may just be: each block, each length, each server, generations at their bounds; a Write is one write of each member, and a Read none.
func TestWriteRead(t *testing.T) {
	for n := 1; n <= 3; n++ {
		c, x := newChain(t, n), first(t, n)
		seqs, writes := map[int]int{}, 2
		put := func(b int, data string, server, gen int) {
			t.Helper()
			seqs[b]++
			writes++
			wantErr(t, fmt.Sprintf("Write(%d, %d bytes, %d, %d)", b, len(data), server, gen), c.Write(x, b, data, server, gen), 0)
			want := api.Cell{Seq: seqs[b], Data: data}
			wantRead(t, c, x, b, want, 0)
			for i := range n {
				wantBlock(t, c, i, b, want)
				wantWrites(t, "Write", c, []int{writes, writes, writes}[:n]...)
			}
		}
		for b := range nBlocks {
			put(b, mixed(b%45, b), b%3, 1+b)
		}
		for size := range maxBlock + 1 {
			put(127, mixed(size, size), 2, 1)
		}
		for _, gen := range []int{1, 2, 1 << 31, 1 << 32, maxCount - 1, maxCount} {
			for server := range nServers {
				put(0, "same", server, gen)
				put(7, "", server, gen)
			}
		}
	}
}

// P8.3: the head counts, and the others take its number, also where theirs was lower; where theirs isn't, that is stale, and the first error ends it.
func TestWriteUneven(t *testing.T) {
	c, x := newChain(t, 3), first(t, 3)
	for range 4 {
		wantErr(t, "Write to node 0", c.Write(alone(0), 5, "head", 0, 1), 0)
	}
	wantErr(t, "Write to node 1", c.Write(alone(1), 5, "middle", 0, 1), 0)
	wantErr(t, "Write", c.Write(x, 5, "x", 0, 1), 0)
	for i := range nStores {
		wantBlock(t, c, i, 5, api.Cell{Seq: 5, Data: "x"})
	}
	for i, times := range []int{1, 2, 5} {
		for range times {
			wantErr(t, "Write to one node", c.Write(alone(i), 6, fmt.Sprint(i), 0, 1), 0)
		}
	}
	wantErr(t, "Write where the middle has that number", c.Write(x, 6, "y", 0, 1), 25)
	wantBlock(t, c, 0, 6, api.Cell{Seq: 2, Data: "y"})
	wantBlock(t, c, 1, 6, api.Cell{Seq: 2, Data: "1"})
	wantBlock(t, c, 2, 6, api.Cell{Seq: 5, Data: "2"})
	wantErr(t, "Write where the tail has a greater one", c.Write(x, 6, "z", 0, 1), 25)
	wantBlock(t, c, 0, 6, api.Cell{Seq: 3, Data: "z"})
	wantBlock(t, c, 1, 6, api.Cell{Seq: 3, Data: "z"})
	wantRead(t, c, x, 6, api.Cell{Seq: 5, Data: "2"}, 0)
	wantErr(t, "Write to node 1", c.Write(alone(1), 6, "w", 0, 1), 0)
	was := tell(c)
	wantErr(t, "Write of the value that the middle has", c.Write(x, 6, "w", 0, 1), 25)
	wantWrites(t, "the middle's own value", c, was.writes[0]+1, was.writes[1], was.writes[2])
	wantErr(t, "Write of the value that the tail has", c.Write(x, 6, "2", 0, 1), 0)
	wantWrites(t, "the tail's own value", c, was.writes[0]+2, was.writes[1]+1, was.writes[2])
	wantRead(t, c, x, 6, api.Cell{Seq: 5, Data: "2"}, 0)
}

// P8.3: a member's fence above the generation ends a Write there; the members ahead of it have taken it.
func TestWriteFencedWithin(t *testing.T) {
	for i := range nStores {
		c, x := newChain(t, 3), first(t, 3)
		wantErr(t, "Fence of one node", c.Fence(alone(i), 1, 7), 0)
		was := tell(c)
		for times := range 3 {
			wantErr(t, "Write below a member's fence", c.Write(x, 5, "b", 1, 6), 22)
			for k := range nStores {
				want := none
				if k < i {
					want = api.Cell{Seq: times + 1, Data: "b"}
				}
				wantBlock(t, c, k, 5, want)
				if c.Writes(k) != was.writes[k]+want.Seq {
					t.Errorf("Writes(%d): %d; want %d", k, c.Writes(k), was.writes[k]+want.Seq)
				}
			}
		}
		wantErr(t, "Write at the fence", c.Write(x, 5, "c", 1, 7), 0)
		wantErr(t, "Write above it", c.Write(x, 5, "c", 1, 8), 0)
		wantErr(t, "Write of another server", c.Write(x, 5, "d", 0, 1), 0)
		wantErr(t, "Write of another server", c.Write(x, 5, "d", 2, 1), 0)
	}
}

// P8.3: where the head's number is MaxCount: ErrWorn, ahead of a fence (R2), and nothing is changed; up to there it goes, and only the head counts.
func TestWriteWorn(t *testing.T) {
	c, x := newChain(t, 3), first(t, 3)
	for i := range nStores {
		wantErr(t, "Load", chain.ReplicaOf(c, i).Load(5, api.Cell{Seq: maxCount - 1, Data: "a"}), ok)
	}
	wantErr(t, "Write up to MaxCount", c.Write(x, 5, "last", 1, 1), 0)
	wantErr(t, "Fence", c.Fence(x, 1, 9), 0)
	before := tell(c)
	for range 2 {
		wantErr(t, "Write behind it", c.Write(x, 5, "more", 0, 1), 15)
		wantErr(t, "Write of the same behind it", c.Write(x, 5, "last", 0, 1), 15)
		wantErr(t, "Write of a fenced one behind it", c.Write(x, 5, "more", 1, 1), 15)
		wantErr(t, "Write out of bounds behind it", c.Write(x, 5, "more", 3, 1), 2)
	}
	wantRead(t, c, x, 5, api.Cell{Seq: maxCount, Data: "last"}, 0)
	wantTold(t, "ErrWorn", c, before)
	wantErr(t, "Write elsewhere", c.Write(x, 6, "x", 0, 1), 0)
	wantErr(t, "Load", chain.ReplicaOf(c, 1).Load(7, api.Cell{Seq: maxCount, Data: "b"}), ok)
	wantErr(t, "Write where another member's is MaxCount", c.Write(x, 7, "x", 0, 1), 25)
	wantBlock(t, c, 0, 7, api.Cell{Seq: 1, Data: "x"})
	wantErr(t, "Write where the config comes first", c.Write(config(1, []int{1, 0}, []int{1, 1}), 7, "x", 0, 1), 15)
	wantErr(t, "Fail", c.Fail(2), 0)
	wantErr(t, "Write with a member down", c.Write(x, 5, "more", 0, 1), 24)
}

// P8.4: below, at and above what stands at each member: none falls, all are at the generation or above; other servers' fences stay. A fence that stands is no write.
func TestFence(t *testing.T) {
	for server := range nServers {
		for _, stands := range [][]int{{0, 0, 0}, {5, 5, 5}, {5, 0, 9}, {0, 9, 5}, {9, 5, 0}, {maxCount, 0, 1}} {
			for _, gen := range []int{1, 4, 5, 6, 8, 9, 10, maxCount - 1, maxCount} {
				c := newChain(t, 3)
				for i, was := range stands {
					if was > 0 {
						wantErr(t, "Fence of one", c.Fence(alone(i), server, was), 0)
					}
					wantErr(t, "Fence of another server", c.Fence(alone(i), (server+1)%3, 20+i), 0)
				}
				before := tell(c)
				for range 2 {
					wantErr(t, fmt.Sprintf("Fence(%d, %d) at %v", server, gen, stands), c.Fence(first(t, 3), server, gen), 0)
				}
				for i, was := range stands {
					if was < gen {
						before.nodes[i].meta.Fences[server] = gen
						before.writes[i]++
					}
				}
				wantTold(t, fmt.Sprintf("Fence(%d, %d) at %v", server, gen, stands), c, before)
			}
		}
	}
}

// P8.4, P8.7: behind a Fence all members have the head's blocks, whatever they had, and whichever is the head; one write for each block that was another. That goes too where the fence stood.
func TestFenceLevels(t *testing.T) {
	for _, members := range [][]int{{0, 1, 2}, {2, 1, 0}, {1, 2, 0}, {2, 0}, {1, 2}, {0}} {
		for _, gen := range []int{3, 4} {
			c := newChain(t, 3)
			x := config(1, members, []int{1, 1, 1}[:len(members)])
			wantErr(t, "Fence", c.Fence(x, 2, 3), 0)
			for i := range nStores {
				unlike(t, c, i)
			}
			want := tell(c)
			for _, m := range members {
				want.writes[m] += gen - 3 + differ(want.nodes[m], want.nodes[members[0]])
				want.nodes[m].meta.Fences[2] = gen
				want.nodes[m].blocks = want.nodes[members[0]].blocks
			}
			wantErr(t, "Fence", c.Fence(x, 2, gen), 0)
			wantTold(t, fmt.Sprintf("Fence of %v", members), c, want)
			wantErr(t, "Fence again", c.Fence(x, 2, gen), 0)
			wantTold(t, "Fence again", c, want)
			wantErr(t, "Write of a lower generation", c.Write(x, 5, "x", 2, gen-1), 22)
			wantTold(t, "Write of a lower generation", c, want)
		}
	}
}

// unlike makes a node's blocks unlike all others': some as they were, some with more writes, of the first and the last one too.
func unlike(t *testing.T, c *chain.Chain, i int) {
	t.Helper()
	for k, b := range []int{0, 5, 6, 7, 60 + i, 126, 127} {
		for range (i+k)%3 + k%2 {
			wantErr(t, "Write to one node", c.Write(alone(i), b, mixed(k, i), 0, maxCount), ok)
		}
	}
}

// differ is in how many blocks two nodes aren't alike.
func differ(x, y state) int {
	n := 0
	for b := range nBlocks {
		if x.blocks[b] != y.blocks[b] {
			n++
		}
	}
	return n
}

// P8.5: Fail, Arm, Revive, Up, Block, Meta and Writes of nodes that there are not, on chains of each length: ErrNode, and zero values; nothing is changed.
func TestNoNode(t *testing.T) {
	for n := 1; n <= 3; n++ {
		c := newChain(t, n)
		wantErr(t, "Write", c.Write(first(t, n), 0, "x", 0, 1), ok)
		for _, down := range []bool{false, true} {
			if down {
				wantErr(t, "Fail", c.Fail(n-1), ok)
			}
			before := tell(c)
			for _, i := range append(farOff(), -1, n, n+1, 3, 4) {
				wantErr(t, fmt.Sprintf("Fail(%d)", i), c.Fail(i), 30)
				for _, k := range []int{-1, 0, 1, math.MinInt, math.MaxInt} {
					wantErr(t, fmt.Sprintf("Arm(%d)", i), c.Arm(i, k), 30)
					wantErr(t, fmt.Sprintf("Revive(%d)", i), c.Revive(i, k, true), 30)
					wantErr(t, fmt.Sprintf("Revive(%d)", i), c.Revive(i, k, false), 30)
				}
				if c.Up(i) || c.Block(i, 0) != none || c.Meta(i) != (api.Meta{}) || c.Writes(i) != 0 {
					t.Errorf("of %d nodes: node %d is there", n, i)
				}
			}
			wantTold(t, "no node", c, before)
		}
	}
}

// P8.5: Fail of a node that is up and of one that is down; what it tells while it is down: zero values, but for its writes. Back again it has all that it had.
func TestFailRevive(t *testing.T) {
	for i := range nStores {
		for _, keep := range []int{math.MinInt, -1, 0, 1, 2, math.MaxInt} {
			for _, torn := range []bool{false, true} {
				c, x := newChain(t, 3), first(t, 3)
				wantErr(t, "Write", c.Write(x, 0, "x", 0, 1), ok)
				wantErr(t, "Fence", c.Fence(x, 1, 4), ok)
				before := tell(c)
				down := before
				down.up[i], down.nodes[i] = false, state{}
				wantErr(t, "Revive of one that is up", c.Revive(i, keep, torn), 26)
				wantTold(t, "Revive of one that is up", c, before)
				wantErr(t, "Fail", c.Fail(i), 0)
				wantTold(t, "Fail", c, down)
				if !chain.StoreOf(c, i).Off() {
					t.Error("Fail: the power of the store is on")
				}
				wantErr(t, "Fail of one that is down", c.Fail(i), 24)
				wantRead(t, c, x, 0, none, 24)
				wantErr(t, "Write", c.Write(x, 0, "y", 0, 1), 24)
				wantErr(t, "Fence", c.Fence(x, 1, 5), 24)
				wantTold(t, "calls on one that is down", c, down)
				wantErr(t, "Revive", c.Revive(i, keep, torn), 0)
				wantTold(t, "Revive", c, before)
				wantErr(t, "Revive again", c.Revive(i, keep, torn), 26)
				wantRead(t, c, x, 0, api.Cell{Seq: 1, Data: "x"}, 0)
				wantErr(t, "Write", c.Write(x, 0, "y", 0, 1), 0)
			}
		}
	}
}

// P8.5: an armed node is up till the write behind so many more; below 0 it is armed no more. Arming one that is down is OK, and is over when it is back, as is one from ahead of its failing.
func TestArm(t *testing.T) {
	for i := range nStores {
		for k := range 4 {
			c, x := newChain(t, 3), first(t, 3)
			wantErr(t, "Arm", c.Arm(i, 9), 0)
			wantErr(t, "Arm", c.Arm(i, k), 0)
			for n := range k {
				wantErr(t, "Write", c.Write(x, n, "x", 0, 1), 0)
				wantRead(t, c, x, n, api.Cell{Seq: 1, Data: "x"}, 0)
			}
			if !c.Up(i) {
				t.Error("an armed node is down")
			}
			wantErr(t, "the armed Write", c.Write(x, 9, "x", 0, 1), 24)
			for m := range nStores {
				if c.Up(m) != (m != i) {
					t.Errorf("Up(%d): %v, where node %d was armed", m, c.Up(m), i)
				}
			}
			wantErr(t, "Fail of one that is down", c.Fail(i), 24)
		}
		for _, k := range []int{-1, math.MinInt, 0, 1} {
			c, x := newChain(t, 3), first(t, 3)
			wantErr(t, "Arm", c.Arm(i, 0), 0)
			if k >= 0 {
				wantErr(t, "Fail", c.Fail(i), 0)
				wantErr(t, "Arm of one that is down", c.Arm(i, k), 0)
				if c.Up(i) {
					t.Error("an armed node is up")
				}
				wantErr(t, "Revive", c.Revive(i, 0, false), 0)
			} else {
				wantErr(t, "Arm", c.Arm(i, k), 0)
			}
			for n := range 5 {
				wantErr(t, "Write", c.Write(x, n, "x", 0, 1), 0)
			}
		}
	}
}

// P8.5: Block of blocks that there are not, of nodes up and down.
func TestNoBlock(t *testing.T) {
	c := newChain(t, 2)
	for b := range nBlocks {
		wantErr(t, "Write", c.Write(first(t, 2), b, "x", 0, 1), ok)
	}
	wantErr(t, "Fail", c.Fail(1), ok)
	for _, b := range append(farOff()[:6], -1, 128, 129, 255, 256, math.MaxInt) {
		wantBlock(t, c, 0, b, none)
		wantBlock(t, c, 1, b, none)
	}
	wantBlock(t, c, 0, 127, api.Cell{Seq: 1, Data: "x"})
	wantBlock(t, c, 1, 127, none)
}

// A nil *Chain: ErrNil ahead of all else, zero values. One that New didn't make has no nodes.
func TestNilZero(t *testing.T) {
	var c *chain.Chain
	var zero chain.Chain
	for _, n := range append(farOff(), -1, 0, 1, 2, 3, 127, 128, maxCount, maxCount+1) {
		for _, x := range append(configsAmiss(), first(t, 3), first(t, 1)) {
			wantErr(t, "Write of nil", c.Write(x, n, "x", n, n), 1)
			wantErr(t, "Fence of nil", c.Fence(x, n, n), 1)
			wantRead(t, c, x, n, none, 1)
		}
		wantErr(t, "Fail of nil", c.Fail(n), 1)
		wantErr(t, "Arm of nil", c.Arm(n, n), 1)
		wantErr(t, "Revive of nil", c.Revive(n, n, true), 1)
		wantErr(t, "Fail of none", zero.Fail(n), 30)
		wantErr(t, "Arm of none", zero.Arm(n, n), 30)
		wantErr(t, "Revive of none", zero.Revive(n, n, true), 30)
		for _, d := range []*chain.Chain{c, &zero} {
			if d.Up(n) || d.Len() != 0 || d.Block(n, n) != none || d.Meta(n) != (api.Meta{}) || d.Writes(n) != 0 {
				t.Errorf("node %d of no nodes is there", n)
			}
		}
	}
	wantErr(t, "Write of nil", c.Write(first(t, 1), 0, mixed(45, 1), 0, 1), 1)
	wantErr(t, "Write of none", zero.Write(first(t, 1), 0, "", 0, 1), 2)
	wantErr(t, "Fence of none", zero.Fence(first(t, 1), 0, 1), 2)
	wantRead(t, &zero, first(t, 1), 0, none, 2)
	wantRead(t, &zero, api.Config{}, 0, none, 2)
}

// R5: no list that is handed in is changed, nor the room behind it, by a call that is refused or done; none is kept.
func TestMemory(t *testing.T) {
	c := newChain(t, 3)
	members, allMembers := roomy([]int{2, 0, 1})
	since, allSince := roomy([]int{1, 7, 1})
	wasMembers, wasSince := slices.Clone(allMembers), slices.Clone(allSince)
	x, y := config(7, members, since), config(8, members, since)
	for _, call := range []op{read(x, 5), write(x, 5, "a", 0, 1), fence(x, 0, 2), write(x, 5, "b", 0, 1), read(x, 128), read(y, 5), read(x, 5), arm(0, 0), write(y, 6, "c", 0, 2), read(y, 5)} {
		call.do(c)
		if !slices.Equal(allMembers, wasMembers) || !slices.Equal(allSince, wasSince) {
			t.Fatalf("%s changes what is handed in: %v, %v", call.what, allMembers, allSince)
		}
	}
	spoil(members)
	spoil(since)
	wantErr(t, "Revive", c.Revive(0, 0, false), ok)
	wantErr(t, "Write", c.Write(config(8, []int{2, 0, 1}, []int{1, 7, 1}), 5, "d", 0, 2), ok)
	for i := range nStores {
		wantBlock(t, c, i, 5, api.Cell{Seq: 2, Data: "d"})
	}
}

// R7: two chains don't touch each other, and the same calls answer the same, whatever was done with another chain between.
func TestTwoChains(t *testing.T) {
	quiet, loud := newTwins(t, 3), newTwins(t, 3)
	x := first(t, 3)
	y := next(t, x, 2, 0)
	z := next(t, y, 0, 1, 2)
	for k, call := range []op{write(x, 5, "a", 0, 1), arm(1, 0), fence(x, 1, 2), read(y, 5), write(y, 6, "b", 1, 1), revive(1, 1, false), read(z, 5), fail(0), revive(0, 0, true), write(z, 127, "c", 2, 1), fence(z, 2, 3)} {
		before := tell(loud.c)
		quiet.do(call)
		wantTold(t, "a call on another chain", loud.c, before)
		before = tell(quiet.c)
		loud.do(write(alone(k%3), k, "loud", 0, 9), fence(x, k%3, k+1), arm(k%3, k%2), read(config(maxCount, []int{k % 3}, []int{1}), 5), fail((k+1)%3))
		wantTold(t, "calls on another chain", quiet.c, before)
	}
}
