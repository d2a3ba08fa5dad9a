package chain_test

import (
	"fmt"
	"slices"
	"testing"

	"lagoon/api"
	"lagoon/chain"
)

// calls are all those that install a config.
func calls(x api.Config) []op {
	return []op{read(x, 5), write(x, 5, "x", 0, 9), fence(x, 0, 9)}
}

// wantRefused wants every call that installs a config to answer one error, and to change nothing.
func wantRefused(t *testing.T, c *chain.Chain, x api.Config, want api.Errno) {
	t.Helper()
	before := tell(c)
	for _, call := range calls(x) {
		v, err := call.do(c)
		wantErr(t, call.what, err, want)
		if v != none {
			t.Errorf("%s: %v beside the error", call.what, v)
		}
	}
	wantTold(t, "a refused config", c, before)
}

// uneven is a chain of three nodes that have unlike blocks and fences.
func uneven(t *testing.T) *chain.Chain {
	t.Helper()
	c := newChain(t, 3)
	for i, fences := range [][3]int{{0, 4, 7}, {3, 0, 7}, {3, 5, 0}} {
		unlike(t, c, i)
		for server, gen := range fences {
			if gen > 0 {
				wantErr(t, "Fence of one node", c.Fence(alone(i), server, gen), ok)
			}
		}
	}
	return c
}

// The words, P8.3, P8.4: a member that is down, wherever it stands, comes ahead of an epoch that is above, and that ahead of no member that has all (R2); nothing is changed (R4). A node that is no member doesn't count.
func TestInstallRefused(t *testing.T) {
	for i := range nStores {
		c := uneven(t)
		wantErr(t, "a later epoch at one node", c.Fence(config(8, []int{i}, []int{1}), 0, 1), ok)
		k, l := (i+1)%3, (i+2)%3
		for _, members := range [][]int{{i, k, l}, {k, i, l}, {l, k, i}, {i}, {k, i}} {
			ones, sevens := []int{1, 1, 1}[:len(members)], []int{7, 7, 7}[:len(members)]
			wantRefused(t, c, config(7, members, ones), errEpoch)
			wantRefused(t, c, config(7, members, sevens), errEpoch)
			wantRefused(t, c, config(1, members, ones), errEpoch)
			wantRefused(t, c, config(8, members, sevens), errLost)
			wantRefused(t, c, config(maxCount, members, sevens), errLost)
		}
		wantErr(t, "Fail", c.Fail(k), ok)
		for _, members := range [][]int{{i, k, l}, {k, i, l}, {l, i, k}, {k}, {i, k}} {
			ones, sevens := []int{1, 1, 1}[:len(members)], []int{7, 7, 7}[:len(members)]
			wantRefused(t, c, config(7, members, ones), errDown)
			wantRefused(t, c, config(7, members, sevens), errDown)
			wantRefused(t, c, config(9, members, sevens), errDown)
			wantRefused(t, c, config(9, members, ones), errDown)
		}
		wantErr(t, "Write of a row without them", c.Write(config(7, []int{l}, []int{1}), 5, "x", 1, 9), ok)
	}
}

// orders are all rows of one to three nodes.
func orders() [][]int {
	return slices.DeleteFunc(lists(0, 1, 2), func(l []int) bool {
		return !plainMayBe(config(1, l, slices.Repeat([]int{1}, len(l))), 3)
	})
}

// installedBy is what an uneven chain should tell behind the installing of a config.
func installedBy(was told, x api.Config) told {
	source := -1
	for i, m := range x.Members {
		if was.nodes[m].meta.Joined == x.Since[i] {
			source = m
		}
	}
	is := was
	for i, m := range x.Members {
		n := &is.nodes[m]
		if n.meta.Epoch != x.Epoch {
			n.meta.Epoch = x.Epoch
			is.writes[m]++
		}
		if n.meta.Joined == x.Since[i] {
			continue
		}
		from := was.nodes[source]
		is.writes[m] += differ(*n, from) + 1
		n.blocks = from.blocks
		n.meta.Joined = x.Since[i]
		for server, gen := range from.meta.Fences {
			if gen > n.meta.Fences[server] {
				n.meta.Fences[server] = gen
				is.writes[m]++
			}
		}
	}
	return is
}

// The words: in every order of members, with every one of them that has all, or comes anew: all members adopt the epoch; those that come anew take over all blocks, the fences and their Since from the last one that had all, and the others keep what they have; each in as many writes as it must. A second call writes nothing more.
func TestInstall(t *testing.T) {
	for _, members := range orders() {
		for set := range 1<<len(members) - 1 {
			for _, epoch := range []int{1, 6} {
				since := slices.Repeat([]int{1}, len(members))
				for i := range since {
					if set>>i&1 == 1 {
						since[i] = epoch
					}
				}
				c, x := uneven(t), config(epoch, members, since)
				want := installedBy(tell(c), x)
				for range 2 {
					wantRead(t, c, x, 127, want.nodes[members[len(members)-1]].blocks[127], 0)
					wantTold(t, "behind "+show(x), c, want)
				}
			}
		}
	}
}

// The words, by one case written down: node 0 comes anew, nodes 1 and 2 have all, and it takes over from node 2, ahead of which it stands; then it has its own fence where that is higher.
func TestTakeOver(t *testing.T) {
	c := newChain(t, 3)
	for i := range nStores {
		for range i + 1 {
			wantErr(t, "Write to one node", c.Write(alone(i), 5, fmt.Sprint(i), 0, 1), ok)
		}
		wantErr(t, "Write to one node", c.Write(alone(i), 10+i, "own", 0, 1), ok)
		wantErr(t, "Fence of one node", c.Fence(alone(i), i, 5), ok)
	}
	wantErr(t, "Fence of one node", c.Fence(alone(2), 1, 8), ok)
	wantWrites(t, "ahead of it", c, 5, 6, 8)
	wantRead(t, c, config(2, []int{0, 1, 2}, []int{2, 1, 1}), 5, api.Cell{Seq: 3, Data: "2"}, 0)
	wantBlock(t, c, 0, 5, api.Cell{Seq: 3, Data: "2"})
	wantBlock(t, c, 0, 10, none)
	wantBlock(t, c, 0, 12, api.Cell{Seq: 1, Data: "own"})
	wantBlock(t, c, 1, 5, api.Cell{Seq: 2, Data: "1"})
	wantBlock(t, c, 1, 11, api.Cell{Seq: 1, Data: "own"})
	for i, want := range []api.Meta{
		{Epoch: 2, Joined: 2, Fences: [3]int{5, 8, 5}},
		{Epoch: 2, Joined: 1, Fences: [3]int{0, 5, 0}},
		{Epoch: 2, Joined: 1, Fences: [3]int{0, 8, 5}},
	} {
		if c.Meta(i) != want {
			t.Errorf("Meta(%d): %v; want %v", i, c.Meta(i), want)
		}
	}
	wantWrites(t, "blocks 5, 10, 12, fences 1, 2, joined and the epoch; the epoch", c, 5+7, 6+1, 8+1)
}

// The words: a value 0 and none is taken over too, onto a block that has more, as are the first and the last block; nothing is written where blocks are alike.
func TestTakeOverNone(t *testing.T) {
	c := newChain(t, 2)
	for _, b := range []int{0, 63, 127} {
		wantErr(t, "Write", c.Write(first(t, 2), b, "alike", 0, 1), ok)
		wantErr(t, "Write to node 1", c.Write(alone(1), b-b%2, "x", 0, 1), ok)
	}
	wantErr(t, "Write to node 0", c.Write(alone(0), 1, "y", 0, 1), ok)
	was := tell(c)
	wantRead(t, c, config(3, []int{0, 1}, []int{1, 2}), 1, api.Cell{Seq: 1, Data: "y"}, 0)
	was.nodes[1].blocks = was.nodes[0].blocks
	was.nodes[0].meta.Epoch = 3
	was.nodes[1].meta = api.Meta{Epoch: 3, Joined: 2}
	was.writes[0]++
	was.writes[1] += 1 + 4 + 1
	wantTold(t, "behind taking over", c, was)
}

// The words: a member's joined may be any other number than its Since, above too, and it hasn't all: also where a later epoch stood ahead.
func TestHasAll(t *testing.T) {
	c := newChain(t, 2)
	wantErr(t, "Write to node 0", c.Write(alone(0), 5, "x", 0, 1), ok)
	wantRead(t, c, config(9, []int{0, 1}, []int{1, 7}), 5, api.Cell{Seq: 1, Data: "x"}, 0)
	wantErr(t, "Write to node 0", c.Write(config(9, []int{0}, []int{1}), 5, "y", 0, 1), ok)
	wantRead(t, c, config(9, []int{0, 1}, []int{1, 7}), 5, api.Cell{Seq: 1, Data: "x"}, 0)
	for _, since := range []int{6, 8, 1, 9, 7} {
		wantErr(t, "Write to node 0", c.Write(config(9, []int{0}, []int{1}), 5, "z", 0, 1), ok)
		wantRefused(t, c, config(9, []int{1}, []int{since}), errLost)
		wantRead(t, c, config(9, []int{0, 1}, []int{1, since}), 5, c.Block(0, 5), 0)
		if c.Meta(1).Joined != since || c.Block(0, 5).Data != "z" {
			t.Errorf("node 1 joined %d, %v; want %d", c.Meta(1).Joined, c.Block(0, 5), since)
		}
	}
}

// The words, P8.3, P8.4: each call installs ahead of what it does: what a Write and a Fence do behind it they do to those that came anew as well.
func TestInstallAhead(t *testing.T) {
	for k := range 3 {
		c := newChain(t, 3)
		wantErr(t, "Write to node 1", c.Write(alone(1), 5, "old", 0, 1), ok)
		wantErr(t, "Fence of node 1", c.Fence(alone(1), 0, 2), ok)
		x := config(4, []int{1, 2, 0}, []int{1, 4, 4})
		_, err := calls(x)[k].do(c)
		wantErr(t, calls(x)[k].what, err, ok)
		for i := range nStores {
			want, meta := api.Cell{Seq: 1, Data: "old"}, api.Meta{Epoch: 4, Joined: 4, Fences: [3]int{2, 0, 0}}
			if k == 1 {
				want = api.Cell{Seq: 2, Data: "x"}
			}
			if k == 2 {
				meta.Fences[0] = 9
			}
			if i == 1 {
				meta.Joined = 1
			}
			wantBlock(t, c, i, 5, want)
			if c.Meta(i) != meta {
				t.Errorf("%s: Meta(%d): %v; want %v", calls(x)[k].what, i, c.Meta(i), meta)
			}
		}
	}
}

// R4, R2: where a call is refused behind the installing, what that has brought stays.
func TestInstallStays(t *testing.T) {
	c := newChain(t, 3)
	wantErr(t, "Write", c.Write(alone(0), 5, "old", 0, 1), ok)
	wantErr(t, "Fence", c.Fence(alone(0), 0, 2), ok)
	x := config(4, []int{0, 1}, []int{1, 4})
	wantErr(t, "Write of a fenced generation", c.Write(x, 5, "x", 0, 1), errFence)
	wantBlock(t, c, 1, 5, api.Cell{Seq: 1, Data: "old"})
	if c.Meta(1) != (api.Meta{Epoch: 4, Joined: 4, Fences: [3]int{2, 0, 0}}) {
		t.Errorf("Meta(1): %v", c.Meta(1))
	}
	wantErr(t, "Load", chain.ReplicaOf(c, 0).Load(5, api.Cell{Seq: maxCount}), ok)
	wantErr(t, "Write of a worn block", c.Write(config(5, []int{0, 1, 2}, []int{1, 4, 5}), 5, "x", 0, 1), errWorn)
	wantBlock(t, c, 1, 5, api.Cell{Seq: 1, Data: "old"})
	wantBlock(t, c, 2, 5, api.Cell{Seq: 1, Data: "old"})
}

// A config of before, used behind the next one: where a node of both has adopted the next one's epoch, it is refused, whatever else was; till the next one is used, it goes on.
func TestConfigOfBefore(t *testing.T) {
	c, x := newChain(t, 3), first(t, 3)
	y := next(t, x, 1, 2)
	z := next(t, y, 2, 0)
	wantErr(t, "Write", c.Write(x, 5, "a", 0, 1), ok)
	wantRead(t, c, y, 5, api.Cell{Seq: 1, Data: "a"}, 0)
	wantRefused(t, c, x, errEpoch)
	wantRefused(t, c, config(1, []int{0, 1}, []int{1, 1}), errEpoch)
	wantErr(t, "Write to the one that is no member", c.Write(alone(0), 6, "alone", 0, 1), ok)
	wantErr(t, "Write", c.Write(z, 5, "b", 0, 1), ok)
	wantRefused(t, c, x, errEpoch)
	wantRefused(t, c, y, errEpoch)
	wantRefused(t, c, alone(0), errEpoch)
	wantErr(t, "Write to the one that is no member", c.Write(config(2, []int{1}, []int{1}), 5, "late", 0, 1), ok)
	wantRead(t, c, z, 5, api.Cell{Seq: 2, Data: "b"}, 0)
	wantBlock(t, c, 0, 6, none)
	w := next(t, z, 0, 1, 2)
	wantRead(t, c, w, 5, api.Cell{Seq: 2, Data: "b"}, 0)
	wantBlock(t, c, 1, 5, api.Cell{Seq: 2, Data: "b"})
}
