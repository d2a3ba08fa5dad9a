package locks_test

import (
	"fmt"
	"math/rand"
	"slices"
	"testing"

	"lagoon/api"
	"lagoon/locks"
)

// call is one of the layer's that changes a state.
type call struct {
	kind         string
	lock, server int
	mode         api.Mode
}

// randomCall is one on a few locks, so that many meet there, or on any.
func randomCall(rnd *rand.Rand) call {
	lock := []int{0, 18, rnd.Intn(nLocks)}[rnd.Intn(3)]
	kind := "Ask"
	switch n := rnd.Intn(40); {
	case n == 0:
		kind = "Drop"
	case n < 14:
		kind = "Free"
	}
	return call{kind, lock, rnd.Intn(nServers), api.Mode(1 + rnd.Intn(2))}
}

// on makes the call.
func (c call) on(t *testing.T, x api.State) api.State {
	t.Helper()
	switch c.kind {
	case "Ask":
		return ask(t, x, c.lock, c.server, c.mode)
	case "Free":
		return release(t, x, c.lock, c.server)
	}
	return locks.Drop(x, c.server)
}

// touches tells whether the call may change a lock.
func (c call) touches(lock int) bool {
	return c.kind == "Drop" || c.lock == lock
}

// plainOn is what the plain one makes of a lock by a call.
func (c call) plainOn(p plain, lock int) plain {
	switch {
	case !c.touches(lock):
		return p
	case c.kind == "Ask":
		return p.ask(c.server, c.mode)
	}
	return p.free(c.server)
}

// serversOf are those that wait for a lock, the first one first.
func serversOf(x api.State, lock int) []int {
	var l []int
	for _, h := range x.Queues[lock] {
		l = append(l, h.Lock)
	}
	return l
}

// wantApart wants no two servers to hold a lock in modes that don't go together (P9.4).
func wantApart(t *testing.T, x api.State) {
	t.Helper()
	for lock, held := range x.Holders {
		soles := slices.Index(held[:], sole) + 1
		if soles > 0 && (held[soles%3] != free || held[(soles+1)%3] != free) {
			t.Errorf("lock %d is held as %v", lock, held)
		}
	}
}

// wantInTurn wants nobody in a queue to have passed another one by a call (P9.5): who stayed stands in the order of before, ahead of who came; who has been given the lock was ahead of all that stayed.
func wantInTurn(t *testing.T, c call, was, is api.State, lock int) {
	t.Helper()
	before, behind := serversOf(was, lock), serversOf(is, lock)
	stayed := slices.DeleteFunc(slices.Clone(before), func(s int) bool { return !slices.Contains(behind, s) })
	if !slices.Equal(stayed, behind[:len(stayed)]) {
		t.Errorf("%v: those that wait for lock %d were %v, and are %v", c, lock, before, behind)
	}
	if came := behind[len(stayed):]; len(came) > 1 || len(came) == 1 && (c.kind != "Ask" || c.lock != lock || c.server != came[0]) {
		t.Errorf("%v: those that wait for lock %d were %v, and are %v", c, lock, before, behind)
	}
	for i, h := range was.Queues[lock] {
		if slices.Contains(behind, h.Lock) {
			continue
		}
		if c.kind != "Ask" && c.server == h.Lock {
			continue
		}
		if is.Holders[lock][h.Lock] != h.Mode {
			t.Errorf("%v: server %d waits for lock %d no more, and hasn't got it", c, h.Lock, lock)
		}
		for _, ahead := range before[:i] {
			if slices.Contains(behind, ahead) {
				t.Errorf("%v: server %d passes server %d at lock %d", c, h.Lock, ahead, lock)
			}
		}
	}
}

// wantFirst wants the first one of a queue to have the lock in its mode as soon as all others have freed it, and not sooner (P9.5).
func wantFirst(t *testing.T, x api.State, lock int, rnd *rand.Rand) {
	t.Helper()
	if len(x.Queues[lock]) == 0 {
		return
	}
	first, held := x.Queues[lock][0], x.Holders[lock]
	for _, s := range rnd.Perm(nServers) {
		if s == first.Lock || held[s] == free {
			continue
		}
		if x.Holders[lock][first.Lock] == first.Mode {
			t.Errorf("server %d has lock %d while %v hold it", first.Lock, lock, x.Holders[lock])
		}
		x = release(t, x, lock, s)
	}
	if x.Holders[lock][first.Lock] != first.Mode || slices.Contains(serversOf(x, lock), first.Lock) {
		t.Errorf("server %d hasn't lock %d, as %v hold it", first.Lock, lock, x.Holders[lock])
	}
}

// wantDone wants a server that called to have, or to wait for, what it asked for, or neither, if it gave it up.
func wantDone(t *testing.T, c call, x api.State, lock int) {
	t.Helper()
	has := x.Holders[lock][c.server]
	waits := slices.Contains(serversOf(x, lock), c.server)
	if c.kind == "Ask" && has < c.mode && !waits || c.kind != "Ask" && (has != free || waits) {
		t.Errorf("%v: server %d has lock %d with mode %d, waits: %v", c, c.server, lock, has, waits)
	}
}

// P9.2 to P9.5: long rows of calls from the zero state on, beside the plain one.
func TestHistory(t *testing.T) {
	longest, steps := 0, 0
	for seed := range int64(20) {
		rnd := rand.New(rand.NewSource(seed))
		x := api.State{Stores: 3, Time: int(seed), Config: api.Config{Epoch: 1, Members: []int{0}, Since: []int{1}}}
		for range 500 {
			c := randomCall(rnd)
			was := clone(x)
			x = c.on(t, x)
			want := was
			for lock := range nLocks {
				want = c.plainOn(plainOf(was, lock), lock).into(want, lock)
				if !c.touches(lock) {
					continue
				}
				wantInTurn(t, c, was, x, lock)
				wantFirst(t, x, lock, rnd)
				wantDone(t, c, x, lock)
				longest = max(longest, len(x.Queues[lock]))
			}
			wantState(t, fmt.Sprint(c), x, ok, want, ok)
			wantApart(t, x)
			if !locks.Valid(x) {
				t.Errorf("%v answers what may not be: %s", c, showAll(x))
			}
			for server := range nServers {
				wantHolds(t, fmt.Sprint(c), locks.Holds(x, server), plainHolds(want, server))
			}
			if t.Failed() {
				return
			}
			steps++
		}
	}
	if longest != 3 || steps != 10000 {
		t.Errorf("the longest queue of %d steps was %d", steps, longest)
	}
}

// P9.4: from a state in which all locks are as they may be at random, rows of calls stay in what may be.
func TestHistoryFromAnywhere(t *testing.T) {
	rows := goodRows()
	for seed := range int64(60) {
		rnd := rand.New(rand.NewSource(seed))
		x := randomState(rnd, rows)
		for range 30 {
			c := randomCall(rnd)
			was := clone(x)
			x = c.on(t, x)
			want := was
			for lock := range nLocks {
				want = c.plainOn(plainOf(was, lock), lock).into(want, lock)
			}
			wantState(t, fmt.Sprint(c), x, ok, want, ok)
			wantApart(t, x)
		}
	}
}

// R7: rows of calls on several states, one behind the other or in turns, come to the same; so does each call that is made again.
func TestApart(t *testing.T) {
	const rowsOfCalls, calls = 5, 200
	run := func(rnds []*rand.Rand, xs []api.State, i int) {
		c := randomCall(rnds[i])
		x := c.on(t, xs[i])
		if again := c.on(t, xs[i]); !equal(x, again) {
			t.Errorf("%v again: %s; was %s", c, showAll(again), showAll(x))
		}
		xs[i] = x
	}
	begin := func() (rnds []*rand.Rand, xs []api.State) {
		for i := range int64(rowsOfCalls) {
			rnds = append(rnds, rand.New(rand.NewSource(i)))
		}
		return rnds, make([]api.State, rowsOfCalls)
	}
	rnds, alone := begin()
	for i := range rowsOfCalls {
		for range calls {
			run(rnds, alone, i)
		}
	}
	rnds, turns := begin()
	for range calls {
		for i := range rowsOfCalls {
			run(rnds, turns, i)
		}
	}
	for i := range rowsOfCalls {
		wantState(t, "in turns", turns[i], ok, alone[i], ok)
	}
}
