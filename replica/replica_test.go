package replica_test

import (
	"fmt"
	"math"
	"strings"
	"testing"

	"lagoon/api"
	"lagoon/replica"
	"lagoon/store"
)

// Numbers at and beside the bounds of each argument: those that may be, and those that may not.
var (
	goodServers = []int{0, 1, 2}
	badServers  = []int{-1, 3, math.MinInt, -1 << 32, -2, 4, 5, 128, 1 << 32, 1<<32 + 1, 1 << 62, math.MaxInt}
	goodCounts  = []int{1, 2, 1 << 31, 1 << 32, maxCount - 1, maxCount}
	badCounts   = []int{-1, maxCount + 1, math.MinInt, -1 << 40, -1 << 32, -2, maxCount + 2, 1<<40 + 1<<32, 1 << 41, 1 << 62, math.MaxInt - 1, math.MaxInt}
)

// wantNoReplica wants Open to answer an error, and no replica.
func wantNoReplica(t *testing.T, what string, s *store.Store, want api.Errno) {
	t.Helper()
	if r, err := replica.Open(s); r != nil || err != want {
		t.Errorf("Open of %s: %v, %d; want nil, %d", what, r, err, want)
	}
}

// The chapter's examples.
func TestExamples(t *testing.T) {
	s, err := store.New(258)
	wantErr(t, "store.New", err, ok)
	r := wantOpened(t, s, state{})
	for _, x := range []struct {
		call   string
		do     func() api.Errno
		want   api.Errno
		block  api.Cell
		writes int
	}{
		{"Apply {1 a}", func() api.Errno { return r.Apply(3, api.Cell{Seq: 1, Data: "a"}, 0, 1) }, 0, api.Cell{Seq: 1, Data: "a"}, 1},
		{"Apply {1 a} again", func() api.Errno { return r.Apply(3, api.Cell{Seq: 1, Data: "a"}, 0, 1) }, 0, api.Cell{Seq: 1, Data: "a"}, 1},
		{"Apply {1 b}", func() api.Errno { return r.Apply(3, api.Cell{Seq: 1, Data: "b"}, 0, 1) }, 25, api.Cell{Seq: 1, Data: "a"}, 1},
		{"Apply {5 b}", func() api.Errno { return r.Apply(3, api.Cell{Seq: 5, Data: "b"}, 0, 1) }, 0, api.Cell{Seq: 5, Data: "b"}, 2},
		{"Fence", func() api.Errno { return r.Fence(0, 2) }, 0, api.Cell{Seq: 5, Data: "b"}, 3},
		{"Apply {6 c}", func() api.Errno { return r.Apply(3, api.Cell{Seq: 6, Data: "c"}, 0, 1) }, 22, api.Cell{Seq: 5, Data: "b"}, 3},
		{"Apply {6 c} of server 1", func() api.Errno { return r.Apply(3, api.Cell{Seq: 6, Data: "c"}, 1, 1) }, 0, api.Cell{Seq: 6, Data: "c"}, 4},
		{"Load {2 z}", func() api.Errno { return r.Load(3, api.Cell{Seq: 2, Data: "z"}) }, 0, api.Cell{Seq: 2, Data: "z"}, 5},
		{"Adopt 3", func() api.Errno { return r.Adopt(3) }, 0, api.Cell{Seq: 2, Data: "z"}, 6},
		{"Adopt 2", func() api.Errno { return r.Adopt(2) }, 21, api.Cell{Seq: 2, Data: "z"}, 6},
	} {
		wantErr(t, x.call, x.do(), x.want)
		if r.Block(3) != x.block || s.Writes() != x.writes || s.Pending() != 0 {
			t.Errorf("%s: block 3 is %v, %d writes, %d pending; want %v, %d, 0", x.call, r.Block(3), s.Writes(), s.Pending(), x.block, x.writes)
		}
	}
	var want state
	want.blocks[3] = api.Cell{Seq: 2, Data: "z"}
	want.meta = api.Meta{Epoch: 3, Fences: [3]int{2}}
	wantState(t, r, want)
	wantOpened(t, s, want)
}

// P7.1: what Open refuses, in the order of the errors (R2), with no replica beside the error (R3); nothing is written (R4).
func TestOpenRefused(t *testing.T) {
	if replica.Need != 258 {
		t.Errorf("Need %d; want 258", replica.Need)
	}
	wantNoReplica(t, "nil", nil, 1)
	wantNoReplica(t, "a store of none", &store.Store{}, 12)
	for _, n := range []int{1, 2, 128, 256, 257} {
		s := from(t, blank(n))
		wantNoReplica(t, "too few sectors", s, 12)
		s.Fail()
		wantNoReplica(t, "too few sectors without power", s, 12)
		s.Revive(0, false)
		wantStill(t, s, blank(n), 0)
	}
	image := laid(some())
	s := from(t, image)
	s.Fail()
	for range 2 {
		wantNoReplica(t, "a store without power", s, 13)
	}
	s.Revive(0, false)
	wantStill(t, s, image, 0)
	wantOpened(t, s, some())
}

// P7.1: all 128 blocks, each in its own cell, and the meta behind them, whichever of its sectors has a cell's text; Open writes nothing, also where it is armed, and of more sectors it needs no more.
func TestOpen(t *testing.T) {
	var want state
	image := blank(512)
	for b := range want.blocks {
		want.blocks[b] = api.Cell{Seq: 1 << (b % 41), Data: mixed(b%45, b)}
		image[2*b+b%2] = sector(100+b, blockText(want.blocks[b]))
		image[2*b+1-b%2] = sector(99-b%3, "older")
	}
	want.meta = api.Meta{Epoch: 1, Joined: 127, Fences: [3]int{128, maxCount, 1}}
	image[256] = sector(8, metaText(api.Meta{Epoch: 9}))
	image[257] = sector(9, metaText(want.meta))
	for i := 258; i < 512; i++ {
		image[i] = sector(i, "behind")
	}
	for _, n := range []int{258, 259, 260, 511, 512} {
		s := from(t, image[:n])
		s.Arm(0)
		wantOpened(t, s, want)
		wantStill(t, s, image[:n], 0)
		wantErr(t, "the armed write", s.Write(0, make([]byte, 64)), errPower)
	}
}

// P7.1: of a new store: no value, and zeros.
func TestOpenNew(t *testing.T) {
	for _, n := range []int{258, 259, 512} {
		s := from(t, blank(n))
		wantOpened(t, s, state{})
		wantStill(t, s, blank(n), 0)
	}
}

// applied is what a replica of some answers to an Apply that asks for it, and whether its state stays; the store is armed, so that a write would be told.
func applied(t *testing.T, b int, x api.Cell, server, gen int, want api.Errno) {
	t.Helper()
	r, s := holding(t, some())
	s.Arm(0)
	call := fmt.Sprintf("Apply(%d, {%d, %d bytes}, %d, %d)", b, x.Seq, len(x.Data), server, gen)
	wantErr(t, call, r.Apply(b, x, server, gen), want)
	wantState(t, r, some())
	wantStill(t, s, laid(some()), 0)
}

// loaded is the same for a Load.
func loaded(t *testing.T, b int, x api.Cell, want api.Errno) {
	t.Helper()
	r, s := holding(t, some())
	s.Arm(0)
	wantErr(t, fmt.Sprintf("Load(%d, {%d, %d bytes})", b, x.Seq, len(x.Data)), r.Load(b, x), want)
	wantState(t, r, some())
	wantStill(t, s, laid(some()), 0)
}

// P7.2: the bounds of each argument, one of them amiss alone, ahead of a fence and of a value (R2); nothing is changed (R4).
func TestApplyRange(t *testing.T) {
	for _, b := range noBlocks() {
		applied(t, b, api.Cell{Seq: 11, Data: "x"}, 1, 1, 2)
		applied(t, b, api.Cell{Seq: 11, Data: "x"}, 0, 1, 2) // fenced
		loaded(t, b, api.Cell{Seq: 11, Data: "x"}, 2)
		loaded(t, b, none, 2)
	}
	for _, seq := range append([]int{0}, badCounts...) {
		for _, b := range []int{3, 5} {
			applied(t, b, api.Cell{Seq: seq, Data: "x"}, 1, 1, 2)
			applied(t, b, api.Cell{Seq: seq}, 1, 1, 2)
			applied(t, b, api.Cell{Seq: seq}, 0, 1, 2)
			loaded(t, b, api.Cell{Seq: seq, Data: "x"}, 2)
			if seq != 0 {
				loaded(t, b, api.Cell{Seq: seq}, 2)
			}
		}
	}
	for _, n := range []int{45, 46, 50, 51, 52, 100, 256, 300, 1 << 16, 1 << 20} {
		for _, text := range []string{mixed(n, 1), strings.Repeat("\x00", n)} {
			applied(t, 3, api.Cell{Seq: 11, Data: text}, 1, 1, 2)
			applied(t, 3, api.Cell{Seq: 11, Data: text}, 0, 1, 2)
			loaded(t, 3, api.Cell{Seq: 11, Data: text}, 2)
			loaded(t, 3, api.Cell{Seq: 0, Data: text}, 2)
		}
	}
	for _, server := range badServers {
		applied(t, 3, api.Cell{Seq: 11, Data: "x"}, server, 1, 2)
		applied(t, 3, some().blocks[3], server, maxCount, 2)
	}
	for _, gen := range append([]int{0}, badCounts...) {
		for server := range 3 {
			applied(t, 3, api.Cell{Seq: 11, Data: "x"}, server, gen, 2)
			applied(t, 3, some().blocks[3], server, gen, 2)
		}
	}
	for _, n := range []int{1, 2, 43, 44} {
		loaded(t, 3, api.Cell{Data: mixed(n, 1)}, 2)
		loaded(t, 5, api.Cell{Data: strings.Repeat("\x00", n)}, 2)
	}
}

// P7.2: each argument at its bounds, and the others between: the value is put.
func TestApplyBounds(t *testing.T) {
	try := func(b int, x api.Cell, server, gen int) {
		t.Helper()
		r, s := fresh(t)
		wantErr(t, fmt.Sprintf("Apply(%d, %v, %d, %d)", b, x, server, gen), r.Apply(b, x, server, gen), ok)
		var want state
		want.blocks[b] = x
		wantState(t, r, want)
		wantStill(t, s, laid(want), 1)
		wantErr(t, "Load", opened(t, from(t, blank(need))).Load(b, x), ok)
	}
	for _, b := range []int{0, 1, 2, 63, 64, 126, 127} {
		try(b, api.Cell{Seq: 7, Data: "seven"}, 1, 3)
	}
	for _, seq := range goodCounts {
		try(5, api.Cell{Seq: seq, Data: "x"}, 1, 3)
		try(127, api.Cell{Seq: seq, Data: mixed(44, 3)}, 1, 3)
		try(5, api.Cell{Seq: seq}, 1, 3)
	}
	for n := range 45 {
		try(5, api.Cell{Seq: 1, Data: mixed(n, n)}, 1, 3)
		try(5, api.Cell{Seq: maxCount, Data: strings.Repeat("\x00", n)}, 1, 3)
		try(5, api.Cell{Seq: 300, Data: strings.Repeat("\xff", n)}, 1, 3)
	}
	for _, server := range goodServers {
		for _, gen := range goodCounts {
			try(5, api.Cell{Seq: 2, Data: "x"}, server, gen)
		}
	}
}

// P7.2: a generation below the server's fence is refused, whatever the value is, also the block's own and a stale one; at the fence and above it isn't, nor is another server's.
func TestApplyFence(t *testing.T) {
	fences := []int{7, 0, 300}
	own, stale, next := some().blocks[3], api.Cell{Seq: 9, Data: "x"}, api.Cell{Seq: 11, Data: "x"}
	for server, fence := range fences {
		for _, gen := range []int{1, 2, 6, 7, 8, 9, 299, 300, 301, 1 << 32, maxCount} {
			if gen < fence {
				for _, x := range []api.Cell{own, stale, next, {Seq: 10, Data: "x"}, {Seq: 10}, {Seq: maxCount, Data: mixed(44, 1)}} {
					applied(t, 3, x, server, gen, 22)
				}
				applied(t, 126, some().blocks[126], server, gen, 22)
				applied(t, 5, api.Cell{Seq: 1}, server, gen, 22)
				continue
			}
			applied(t, 3, own, server, gen, 0)
			applied(t, 3, stale, server, gen, 25)
			r, s := holding(t, some())
			wantErr(t, "Apply at the fence or above", r.Apply(3, next, server, gen), ok)
			want := some()
			want.blocks[3] = next
			wantState(t, r, want)
			if s.Writes() != 1 {
				t.Errorf("%d writes; want 1", s.Writes())
			}
		}
	}
}

// P7.2: the block's own value is OK and isn't written; another of its number, or of a lower one, is stale; one of a greater number is put, by however much it is greater, also with the same bytes.
func TestApplyNumbers(t *testing.T) {
	for _, was := range []api.Cell{{Seq: 1}, {Seq: 1, Data: "a"}, {Seq: 10, Data: "ab"}, {Seq: 128, Data: mixed(44, 1)}, {Seq: 1 << 32, Data: "\x00"}, {Seq: maxCount - 1, Data: "x"}, {Seq: maxCount, Data: "last"}, {Seq: maxCount}} {
		for _, seq := range []int{1, 2, 9, 10, 11, 127, 128, 129, 255, 256, 1<<32 - 1, 1 << 32, 1<<32 + 1, maxCount - 2, maxCount - 1, maxCount} {
			for _, data := range []string{was.Data, "", "a", "ab", "b", "\x00", "\x00\x00", mixed(44, 1), mixed(44, 2), "last"} {
				var before state
				before.blocks[9] = was
				r, s := holding(t, before)
				x := api.Cell{Seq: seq, Data: data}
				want, writes := errStale, 0
				if x.Seq == was.Seq && x.Data == was.Data {
					want = ok
				} else if seq > was.Seq {
					want, writes = ok, 1
					before.blocks[9] = x
				}
				wantErr(t, fmt.Sprintf("Apply of %v onto %v", x, was), r.Apply(9, x, 2, 1), want)
				wantState(t, r, before)
				if s.Writes() != writes || s.Pending() != 0 {
					t.Errorf("%d writes, %d pending; want %d, 0", s.Writes(), s.Pending(), writes)
				}
				wantOpened(t, s, before)
			}
		}
	}
}

// P7.2: Load puts whatever value there is but the block's own, whatever the numbers are; a value 0 and none too; no fence holds it.
func TestLoadNumbers(t *testing.T) {
	for _, was := range []api.Cell{none, {Seq: 1}, {Seq: 10, Data: "ab"}, {Seq: maxCount, Data: "last"}} {
		for _, x := range []api.Cell{none, {Seq: 1}, {Seq: 1, Data: "a"}, {Seq: 9, Data: "ab"}, {Seq: 10, Data: "ab"}, {Seq: 10, Data: "ac"}, {Seq: 10}, {Seq: 11, Data: mixed(44, 1)}, {Seq: maxCount - 1}, {Seq: maxCount, Data: "last"}, {Seq: maxCount, Data: "\x00"}} {
			before := some()
			before.meta.Fences = [3]int{maxCount, maxCount, maxCount}
			before.blocks[9] = was
			r, s := holding(t, before)
			want, writes := before, 1
			if x.Seq == was.Seq && x.Data == was.Data {
				writes = 0
			}
			want.blocks[9] = x
			wantErr(t, fmt.Sprintf("Load of %v onto %v", x, was), r.Load(9, x), 0)
			wantErr(t, "Load again", r.Load(9, x), 0)
			wantState(t, r, want)
			if s.Writes() != writes || s.Pending() != 0 {
				t.Errorf("Load of %v onto %v: %d writes, %d pending; want %d, 0", x, was, s.Writes(), s.Pending(), writes)
			}
			wantOpened(t, s, want)
		}
	}
}

// P7.3: what Fence, Adopt and Join refuse: nothing is changed (R4).
func TestMetaRange(t *testing.T) {
	r, s := holding(t, some())
	s.Arm(0)
	for _, server := range badServers {
		for _, gen := range []int{-1, 0, 1, 8, maxCount, maxCount + 1} {
			wantErr(t, fmt.Sprintf("Fence(%d, %d)", server, gen), r.Fence(server, gen), 2)
		}
	}
	for _, n := range append([]int{0}, badCounts...) {
		for _, server := range goodServers {
			wantErr(t, fmt.Sprintf("Fence(%d, %d)", server, n), r.Fence(server, n), 2)
		}
		wantErr(t, fmt.Sprintf("Adopt(%d)", n), r.Adopt(n), 2)
		if n != 0 {
			wantErr(t, fmt.Sprintf("Join(%d)", n), r.Join(n), 2)
		}
	}
	wantState(t, r, some())
	wantStill(t, s, laid(some()), 0)
}

// P7.3: Fence lifts one server's fence, and never lowers it; at the fence and below nothing is written.
func TestFence(t *testing.T) {
	for server := range 3 {
		for _, was := range []int{0, 1, 7, 128, 1 << 32, maxCount - 1, maxCount} {
			for _, gen := range []int{1, 2, 6, 7, 8, 127, 128, 129, 1<<32 - 1, 1 << 32, maxCount - 1, maxCount} {
				want := some()
				want.meta.Fences[server] = was
				r, s := holding(t, want)
				writes := 0
				if gen > was {
					want.meta.Fences[server] = gen
					writes = 1
				}
				wantErr(t, fmt.Sprintf("Fence(%d, %d) above %d", server, gen, was), r.Fence(server, gen), 0)
				wantErr(t, "Fence again", r.Fence(server, gen), 0)
				wantState(t, r, want)
				if s.Writes() != writes || s.Pending() != 0 {
					t.Errorf("Fence(%d, %d) above %d: %d writes; want %d", server, gen, was, s.Writes(), writes)
				}
				wantOpened(t, s, want)
			}
		}
	}
}

// P7.3: Adopt lifts the epoch; that of the replica isn't written again, one below it is refused.
func TestAdopt(t *testing.T) {
	for _, was := range []int{0, 1, 2, 5, 127, 128, 1 << 32, maxCount - 1, maxCount} {
		for _, epoch := range []int{1, 2, 3, 4, 5, 6, 126, 127, 128, 129, 1<<32 - 1, 1 << 32, maxCount - 1, maxCount} {
			before := some()
			before.meta.Epoch = was
			r, s := holding(t, before)
			want, writes := before, 0
			err := ok
			if epoch < was {
				err = errEpoch
			} else if epoch > was {
				want.meta.Epoch, writes = epoch, 1
			}
			for range 2 {
				wantErr(t, fmt.Sprintf("Adopt(%d) at %d", epoch, was), r.Adopt(epoch), err)
			}
			wantState(t, r, want)
			if s.Writes() != writes || s.Pending() != 0 {
				t.Errorf("Adopt(%d) at %d: %d writes; want %d", epoch, was, s.Writes(), writes)
			}
			wantOpened(t, s, want)
		}
	}
}

// P7.3: Join sets joined, up or down, to 0 too; what it is isn't written again. The epoch doesn't bound it.
func TestJoin(t *testing.T) {
	for _, was := range []int{0, 1, 4, 128, maxCount} {
		for _, since := range []int{0, 1, 3, 4, 5, 6, 127, 128, 129, 1 << 32, maxCount - 1, maxCount} {
			want := some()
			want.meta.Joined = was
			r, s := holding(t, want)
			want.meta.Joined = since
			writes := 1
			if since == was {
				writes = 0
			}
			for range 2 {
				wantErr(t, fmt.Sprintf("Join(%d) at %d", since, was), r.Join(since), 0)
			}
			wantState(t, r, want)
			if s.Writes() != writes || s.Pending() != 0 {
				t.Errorf("Join(%d) at %d: %d writes; want %d", since, was, s.Writes(), writes)
			}
			wantOpened(t, s, want)
		}
	}
}

// P7.3: of a new replica: each call changes its own number alone.
func TestMetaOnce(t *testing.T) {
	for call, x := range map[string]struct {
		do   func(*replica.Replica) api.Errno
		want api.Meta
	}{
		"Fence(0, 9)": {func(r *replica.Replica) api.Errno { return r.Fence(0, 9) }, api.Meta{Fences: [3]int{9, 0, 0}}},
		"Fence(1, 9)": {func(r *replica.Replica) api.Errno { return r.Fence(1, 9) }, api.Meta{Fences: [3]int{0, 9, 0}}},
		"Fence(2, 9)": {func(r *replica.Replica) api.Errno { return r.Fence(2, 9) }, api.Meta{Fences: [3]int{0, 0, 9}}},
		"Adopt(9)":    {func(r *replica.Replica) api.Errno { return r.Adopt(9) }, api.Meta{Epoch: 9}},
		"Join(9)":     {func(r *replica.Replica) api.Errno { return r.Join(9) }, api.Meta{Joined: 9}},
		"Join(0)":     {func(r *replica.Replica) api.Errno { return r.Join(0) }, api.Meta{}},
	} {
		r, s := fresh(t)
		wantErr(t, call, x.do(r), ok)
		wantState(t, r, state{meta: x.want})
		wantOpened(t, s, state{meta: x.want})
	}
}

// P7.4: a fence holds from the call on for every block, and for the replicas opened behind it; the block's own value of a lower generation is refused as well, as the order of the answers has it.
func TestFenced(t *testing.T) {
	r, s := fresh(t)
	wantErr(t, "Apply", r.Apply(3, api.Cell{Seq: 1, Data: "a"}, 1, 4), ok)
	wantErr(t, "Fence", r.Fence(1, 5), ok)
	for range 2 {
		for b := range nBlocks {
			for _, gen := range []int{1, 4} {
				wantErr(t, "Apply of a fenced generation", r.Apply(b, api.Cell{Seq: 2, Data: "b"}, 1, gen), 22)
				wantErr(t, "Apply of a fenced generation", r.Apply(b, r.Block(3), 1, gen), 22)
			}
		}
		wantErr(t, "Fence lower", r.Fence(1, 4), ok)
		if s.Writes() != 2 {
			t.Errorf("%d writes; want 2", s.Writes())
		}
		r = opened(t, s)
	}
	wantErr(t, "Apply at the fence", r.Apply(3, api.Cell{Seq: 1, Data: "a"}, 1, 5), ok)
	wantErr(t, "Apply at the fence", r.Apply(3, api.Cell{Seq: 2, Data: "b"}, 1, 5), ok)
	wantErr(t, "Apply of another server", r.Apply(3, api.Cell{Seq: 3, Data: "c"}, 0, 1), ok)
	wantErr(t, "Apply of another server", r.Apply(3, api.Cell{Seq: 4, Data: "d"}, 2, 1), ok)
}

// nil *Replica: ErrNil ahead of all else; no value, and zeros.
func TestNil(t *testing.T) {
	var r *replica.Replica
	for _, n := range []int{math.MinInt, -1, 0, 1, 127, 128, maxCount + 1, math.MaxInt} {
		wantErr(t, "Apply of nil", r.Apply(n, api.Cell{Seq: n, Data: "x"}, n, n), 1)
		wantErr(t, "Apply of nil", r.Apply(1, api.Cell{Seq: 1, Data: mixed(45, 1)}, 1, 1), 1)
		wantErr(t, "Load of nil", r.Load(n, api.Cell{Seq: n, Data: "x"}), 1)
		wantErr(t, "Load of nil", r.Load(n, none), 1)
		wantErr(t, "Fence of nil", r.Fence(n, n), 1)
		wantErr(t, "Adopt of nil", r.Adopt(n), 1)
		wantErr(t, "Join of nil", r.Join(n), 1)
	}
	wantState(t, r, state{})
}

// A replica that Open didn't make has no value and zeros, and takes none.
func TestZero(t *testing.T) {
	var r replica.Replica
	if r.Apply(3, api.Cell{Seq: 1}, 0, 1) == ok || r.Load(3, api.Cell{Seq: 1}) == ok || r.Fence(0, 1) == ok || r.Adopt(1) == ok || r.Join(1) == ok {
		t.Error("a replica on no store takes something")
	}
	wantState(t, &r, state{})
}

// P7.2, P7.3: where a cell's own number is MaxCount already, the cells' error is answered; nothing is changed, and the replica isn't dead.
func TestWorn(t *testing.T) {
	image := laid(some())
	image[6] = sector(maxCount, blockText(some().blocks[3]))
	image[257] = sector(maxCount, metaText(some().meta))
	s := from(t, image)
	r := wantOpened(t, s, some())
	next := api.Cell{Seq: 11, Data: "x"}
	for range 2 {
		wantErr(t, "Apply onto a worn cell", r.Apply(3, next, 1, 1), 15)
		wantErr(t, "Load onto a worn cell", r.Load(3, next), 15)
		wantErr(t, "Load onto a worn cell", r.Load(3, none), 15)
		wantErr(t, "Fence on a worn cell", r.Fence(0, 8), 15)
		wantErr(t, "Adopt on a worn cell", r.Adopt(6), 15)
		wantErr(t, "Join on a worn cell", r.Join(0), 15)
		wantErr(t, "Apply of its value", r.Apply(3, some().blocks[3], 1, 1), ok)
		wantErr(t, "Apply of a stale one", r.Apply(3, api.Cell{Seq: 9}, 1, 1), errStale)
		wantErr(t, "Apply below the fence", r.Apply(3, next, 0, 6), errFence)
		wantErr(t, "Apply out of bounds", r.Apply(3, next, 3, 6), errRange)
		wantErr(t, "Load of its value", r.Load(3, some().blocks[3]), ok)
		wantErr(t, "Fence at the fence", r.Fence(0, 7), ok)
		wantErr(t, "Adopt of its epoch", r.Adopt(5), ok)
		wantErr(t, "Adopt below", r.Adopt(4), errEpoch)
		wantErr(t, "Join as it is", r.Join(4), ok)
		wantState(t, r, some())
		wantStill(t, s, image, 0)
	}
	wantErr(t, "Apply elsewhere", r.Apply(4, next, 1, 1), ok)
	wantErr(t, "Load elsewhere", r.Load(127, none), ok)
}

// P7.2, P7.3: a cell whose number comes to MaxCount by a call.
func TestWornAtLast(t *testing.T) {
	image := blank(need)
	image[6] = sector(maxCount-1, "")
	image[256] = sector(maxCount-1, "")
	s := from(t, image)
	r := wantOpened(t, s, state{})
	wantErr(t, "Apply", r.Apply(3, api.Cell{Seq: 1, Data: "a"}, 1, 1), ok)
	wantErr(t, "Adopt", r.Adopt(1), ok)
	wantErr(t, "Apply", r.Apply(3, api.Cell{Seq: 2, Data: "a"}, 1, 1), errWorn)
	wantErr(t, "Adopt", r.Adopt(2), errWorn)
	var want state
	want.blocks[3] = api.Cell{Seq: 1, Data: "a"}
	want.meta.Epoch = 1
	wantState(t, r, want)
	image[7] = sector(maxCount, "\x01a")
	image[257] = sector(maxCount, "\x01\x00\x00\x00\x00")
	wantStill(t, s, image, 2)
}

// R7: two replicas on two stores don't touch each other.
func TestTwoReplicas(t *testing.T) {
	a, sa := holding(t, some())
	b, sb := fresh(t)
	wantErr(t, "Apply", a.Apply(3, api.Cell{Seq: 11, Data: "x"}, 1, 1), ok)
	wantErr(t, "Fence", a.Fence(1, 9), ok)
	wantState(t, b, state{})
	wantStill(t, sb, blank(need), 0)
	wantErr(t, "Apply", b.Apply(3, api.Cell{Seq: 1, Data: "b"}, 1, 1), ok)
	wantErr(t, "Adopt", b.Adopt(1), ok)
	wantErr(t, "Join", b.Join(1), ok)
	want := some()
	want.blocks[3] = api.Cell{Seq: 11, Data: "x"}
	want.meta.Fences[1] = 9
	wantState(t, a, want)
	sa.Arm(0)
	wantErr(t, "Apply with the power armed", a.Apply(4, api.Cell{Seq: 1}, 1, 9), errPower)
	wantErr(t, "Fence", b.Fence(2, 4), ok)
	wantErr(t, "Load", b.Load(4, api.Cell{Seq: 1}), ok)
	wantState(t, a, want)
	sa.Revive(0, true)
	wantOpened(t, sa, want)
	other := state{meta: api.Meta{Epoch: 1, Joined: 1, Fences: [3]int{0, 0, 4}}}
	other.blocks[3], other.blocks[4] = api.Cell{Seq: 1, Data: "b"}, api.Cell{Seq: 1}
	wantState(t, b, other)
	wantOpened(t, sb, other)
}

// R7: a replica and its copy are two: what one is told, and its death, the other doesn't tell.
func TestCopy(t *testing.T) {
	r, s := holding(t, some())
	other := *r
	wantErr(t, "Apply", r.Apply(3, api.Cell{Seq: 11}, 1, 1), ok)
	wantErr(t, "Adopt", r.Adopt(9), ok)
	wantState(t, &other, some())
	s.Arm(0)
	wantErr(t, "Join with the power armed", r.Join(9), errPower)
	s.Revive(0, false)
	wantErr(t, "Join on a dead replica", r.Join(9), errPower)
	wantErr(t, "Fence", other.Fence(1, 1), ok)
}
