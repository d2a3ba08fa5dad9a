package chain_test

import (
	"slices"
	"testing"

	"lagoon/api"
	"lagoon/chain"
)

// scene is a call in which the power may fail, and what was done ahead of it.
type scene struct {
	what  string
	ahead []op
	call  op
	most  [nStores]int // how many writes of each node the call has, if none fails
}

// scenes are installings of all kinds, Writes, Reads and Fences.
func scenes(t *testing.T) []scene {
	x := first(t, 3)
	y := next(t, x, 0, 2)
	z := next(t, y, 0, 2, 1)
	two := next(t, next(t, x, 2), 1, 2, 0)
	all := []op{write(x, 0, "a", 0, 1), write(x, 5, "b", 0, 1), write(x, 127, "c", 0, 1)}
	apart := []op{write(alone(0), 5, "head", 0, 9), write(alone(1), 0, "more", 0, 9), write(alone(2), 126, "tail", 0, 9), write(alone(2), 127, "tail", 0, 9), fence(alone(0), 1, 3), fence(alone(2), 2, 4), fence(alone(1), 2, 9)}
	without := slices.Concat(all, []op{write(y, 5, "d", 0, 1), write(y, 6, "e", 1, 1), fence(y, 0, 2), fence(y, 2, 7)})
	both := slices.Concat(all, apart)
	return []scene{
		{"a Write", all, write(x, 5, "new", 0, 1), [3]int{1, 1, 1}},
		{"a Write of fewer", all, write(config(1, []int{2, 1}, []int{1, 1}), 127, "new", 0, 1), [3]int{0, 1, 1}},
		{"a Read", all, read(x, 5), [3]int{}},
		{"a Read of a next config", all, read(y, 5), [3]int{1, 0, 1}},
		{"a Write of a next config", all, write(y, 5, "new", 0, 1), [3]int{2, 0, 2}},
		{"a Read by which one comes anew", without, read(z, 5), [3]int{1, 6, 1}},
		{"a Write by which one comes anew", without, write(z, 5, "new", 1, 1), [3]int{2, 7, 2}},
		{"a Write that is fenced, by which one comes anew", without, write(z, 5, "new", 0, 1), [3]int{1, 6, 1}},
		{"a Fence by which one comes anew", without, fence(z, 0, 3), [3]int{2, 7, 2}},
		{"a Write by which two come anew", both, write(two, 5, "new", 0, 9), [3]int{7, 6, 2}},
		{"a Fence", both, fence(x, 0, 2), [3]int{1, 3, 4}},
		{"a Fence that stands", slices.Concat(both, []op{fence(alone(0), 2, 4)}), fence(x, 2, 4), [3]int{0, 2, 3}},
		{"one comes ahead of those that have all", both, read(config(3, []int{1, 0, 2}, []int{3, 1, 1}), 5), [3]int{1, 5, 1}},
		{"one comes between", both, fence(config(3, []int{0, 1, 2}, []int{1, 3, 1}), 1, 1), [3]int{1, 9, 5}},
		{"two come ahead", both, write(config(3, []int{1, 0, 2}, []int{3, 2, 1}), 5, "new", 2, 9), [3]int{7, 6, 2}},
		{"two come at both ends", both, fence(config(3, []int{2, 0, 1}, []int{3, 1, 3}), 0, 9), [3]int{2, 6, 7}},
	}
}

// P8.3, P8.4 (the scenes): how many writes each call has: what the failing ones below go through.
func TestScenes(t *testing.T) {
	for _, s := range scenes(t) {
		w := newTwins(t, nStores)
		w.do(s.ahead...)
		before := tell(w.c)
		w.do(s.call)
		for i := range nStores {
			if n := w.c.Writes(i) - before.writes[i]; n != s.most[i] {
				t.Errorf("%s: node %d writes %d times; want %d", s.what, i, n, s.most[i])
			}
		}
		before = tell(w.c)
		again := w.do(s.call)
		for i := range nStores {
			if n := w.c.Writes(i) - before.writes[i]; n > 1 {
				t.Errorf("%s again: node %d writes %d times, %d", s.what, i, n, again)
			}
		}
	}
}

// broken is the twins behind a scene in which the power fails at a node's write behind so many.
func broken(t *testing.T, s scene, i, k int) *twins {
	t.Helper()
	w := newTwins(t, nStores)
	w.do(s.ahead...)
	before := tell(w.c)
	w.do(arm(i, k))
	wantErr(t, s.what+" with the power armed", w.do(s.call), 24)
	for n := range nStores {
		if w.c.Up(n) != (n != i) {
			t.Errorf("%s: node %d is armed, node %d up: %v", s.what, i, n, w.c.Up(n))
		}
	}
	if w.c.Writes(i) != before.writes[i]+k+1 {
		t.Errorf("%s: %d writes of the node whose power failed; want %d", s.what, w.c.Writes(i)-before.writes[i], k+1)
	}
	return w
}

// P8.3 to P8.5, R4: the power fails at each write of each member in every scene: ErrDown is answered, that node is down, what was written ahead of it stays written, and nothing is written behind it. Revived in every way the node has its state from ahead of that write, or from behind it; and the call goes on where it was.
func TestPowerFails(t *testing.T) {
	for _, s := range scenes(t) {
		for i, most := range s.most {
			for k := range most {
				for _, keep := range []int{-1, 0, 1, 2} {
					for _, torn := range []bool{false, true} {
						w := broken(t, s, i, k)
						w.do(s.call, fail(i), revive(i, keep, torn), revive(i, keep, torn), s.call, s.call)
					}
				}
				if t.Failed() {
					t.Fatalf("%s: node %d at write %d", s.what, i, k)
				}
			}
			w := newTwins(t, nStores)
			w.do(s.ahead...)
			w.do(arm(i, most), s.call)
			if !w.c.Up(i) {
				t.Errorf("%s: node %d has written more than %d times", s.what, i, most)
			}
		}
	}
}

// P8.3 to P8.5: two nodes fail in one scene, the second one when it is called again.
func TestPowerFailsTwice(t *testing.T) {
	for _, s := range scenes(t) {
		for i, most := range s.most {
			for k := range most {
				for other := range nStores {
					w := broken(t, s, i, k)
					w.do(revive(i, k%2, false), arm(other, k/2), s.call, s.call, revive(other, 1-k%2, true), s.call, read(config(9, []int{other}, []int{1}), 5))
				}
			}
		}
	}
}

// P8.3: by one case written down: what a Write has brought, where the power fails at each member's write, and what stands there when that one is back, were the write kept, lost or torn.
func TestWriteHalfWay(t *testing.T) {
	was, is := api.Cell{Seq: 1, Data: "old"}, api.Cell{Seq: 2, Data: "new"}
	for i := range nStores {
		for _, r := range []struct {
			keep int
			torn bool
			want api.Cell
		}{{0, false, was}, {0, true, was}, {1, false, is}, {1, true, is}, {-1, false, was}, {2, true, is}} {
			c, x := newChain(t, 3), first(t, 3)
			wantErr(t, "Write", c.Write(x, 5, "old", 0, 1), 0)
			wantErr(t, "Arm", c.Arm(i, 0), 0)
			wantErr(t, "Write with the power armed", c.Write(x, 5, "new", 0, 1), 24)
			for ahead := range i {
				wantBlock(t, c, ahead, 5, is)
			}
			wantBlock(t, c, i, 5, none)
			for behind := i + 1; behind < nStores; behind++ {
				wantBlock(t, c, behind, 5, was)
			}
			wantRead(t, c, x, 5, none, 24)
			wantErr(t, "Revive", c.Revive(i, r.keep, r.torn), 0)
			wantBlock(t, c, i, 5, r.want)
			torn := slices.ContainsFunc(chain.StoreOf(c, i).Image(), func(b []byte) bool { return len(b) == 0 })
			if want := r.torn && r.want == was; torn != want {
				t.Errorf("Revive(%d, %d, %v): a sector is torn: %v; want %v", i, r.keep, r.torn, torn, want)
			}
			if c.Meta(i) != (api.Meta{Epoch: 1, Joined: 1}) {
				t.Errorf("Meta(%d): %v", i, c.Meta(i))
			}
		}
	}
}

// P8.3: a takeover that failed half-way has joined nothing: the member hasn't all, and nobody takes over from it, till it was installed to the end.
func TestTakeOverHalfWay(t *testing.T) {
	for k := range 5 {
		for keep := range 2 {
			c, x := newChain(t, 2), first(t, 2)
			y := config(2, []int{0}, []int{1})
			for b := range 3 {
				wantErr(t, "Write", c.Write(y, b, "x", 0, 1), 0)
			}
			z := next(t, y, 0, 1)
			wantErr(t, "Arm", c.Arm(1, k), 0)
			wantRead(t, c, z, 2, none, 24)
			wantErr(t, "Revive", c.Revive(1, keep, false), 0)
			m := c.Meta(1)
			if all := k == 4 && keep == 1; (m.Joined == 3) != all || c.Meta(0) != (api.Meta{Epoch: 3, Joined: 1}) {
				t.Errorf("at write %d: %v, node 0 %v", k, m, c.Meta(0))
			}
			if m.Joined != 3 {
				wantRead(t, c, next(t, z, 1), 2, none, 23)
				wantRead(t, c, next(t, next(t, z, 1), 1, 0), 2, none, 23)
			}
			wantRead(t, c, z, 2, api.Cell{Seq: 1, Data: "x"}, 0)
			wantRead(t, c, next(t, z, 1), 2, api.Cell{Seq: 1, Data: "x"}, 0)
			wantRead(t, c, x, 2, none, 21)
		}
	}
}
