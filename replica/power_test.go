package replica_test

import (
	"bytes"
	"fmt"
	"math"
	"math/rand"
	"testing"

	"lagoon/api"
	"lagoon/replica"
)

// call is one that writes a replica of some, what it makes of it, and which cell it writes.
type call struct {
	what string
	do   func(*replica.Replica) api.Errno
	make func(*state)
	cell int
}

// calls are all the kinds of them.
func calls() []call {
	l := []call{
		{"Adopt(6)", func(r *replica.Replica) api.Errno { return r.Adopt(6) }, func(x *state) { x.meta.Epoch = 6 }, metaAt},
		{"Adopt(MaxCount)", func(r *replica.Replica) api.Errno { return r.Adopt(maxCount) }, func(x *state) { x.meta.Epoch = maxCount }, metaAt},
		{"Join(0)", func(r *replica.Replica) api.Errno { return r.Join(0) }, func(x *state) { x.meta.Joined = 0 }, metaAt},
		{"Join(300)", func(r *replica.Replica) api.Errno { return r.Join(300) }, func(x *state) { x.meta.Joined = 300 }, metaAt},
	}
	for server := range 3 {
		l = append(l, call{fmt.Sprintf("Fence(%d, 301)", server), func(r *replica.Replica) api.Errno { return r.Fence(server, 301) }, func(x *state) { x.meta.Fences[server] = 301 }, metaAt})
	}
	for _, b := range []int{0, 3, 5, 127} {
		for _, x := range []api.Cell{{Seq: maxCount}, {Seq: maxCount, Data: mixed(44, 9)}} {
			l = append(l, call{fmt.Sprintf("Apply(%d, %v)", b, x), func(r *replica.Replica) api.Errno { return r.Apply(b, x, 0, 7) }, func(is *state) { is.blocks[b] = x }, b})
		}
		for _, x := range []api.Cell{{Seq: 1, Data: "loaded"}, {Seq: maxCount, Data: mixed(44, 9)}} {
			l = append(l, call{fmt.Sprintf("Load(%d, %v)", b, x), func(r *replica.Replica) api.Errno { return r.Load(b, x) }, func(is *state) { is.blocks[b] = x }, b})
		}
	}
	return append(l, call{"Load(3, none)", func(r *replica.Replica) api.Errno { return r.Load(3, none) }, func(x *state) { x.blocks[3] = none }, 3})
}

// wantDead wants every call on a replica to answer ErrPower, whatever its arguments are (R2), and it to tell what it told.
func wantDead(t *testing.T, r *replica.Replica, x state) {
	t.Helper()
	for _, n := range []int{math.MinInt, -1, 0, 1, 3, 5, 128, maxCount, maxCount + 1, math.MaxInt} {
		wantErr(t, "Apply on a dead replica", r.Apply(n, api.Cell{Seq: n, Data: mixed(45, 1)}, n, n), 13)
		wantErr(t, "Apply on a dead replica", r.Apply(3, api.Cell{Seq: n}, 0, 1), 13)
		wantErr(t, "Apply on a dead replica", r.Apply(3, x.blocks[3], n, maxCount), 13)
		wantErr(t, "Load on a dead replica", r.Load(n, api.Cell{Seq: n, Data: "x"}), 13)
		wantErr(t, "Load on a dead replica", r.Load(3, x.blocks[3]), 13)
		wantErr(t, "Load on a dead replica", r.Load(5, none), 13)
		wantErr(t, "Fence on a dead replica", r.Fence(n, n), 13)
		wantErr(t, "Fence on a dead replica", r.Fence(0, n), 13)
		wantErr(t, "Adopt on a dead replica", r.Adopt(n), 13)
		wantErr(t, "Adopt on a dead replica", r.Adopt(x.meta.Epoch), 13)
		wantErr(t, "Join on a dead replica", r.Join(n), 13)
		wantErr(t, "Join on a dead replica", r.Join(x.meta.Joined), 13)
	}
	wantState(t, r, x)
}

// P7.2, P7.3: each call that writes writes one sector of its cell, and is durable.
func TestOneWrite(t *testing.T) {
	for _, c := range calls() {
		r, s := holding(t, some())
		want := some()
		c.make(&want)
		wantErr(t, c.what, c.do(r), ok)
		text := metaText(want.meta)
		if c.cell != metaAt {
			text = blockText(want.blocks[c.cell])
		}
		image := with(laid(some()), 2*c.cell+1, sector(2, text))
		if c.cell == 5 {
			image = with(laid(some()), 2*c.cell, sector(1, text))
		}
		wantStill(t, s, image, 1)
		wantState(t, r, want)
		wantOpened(t, s, want)
	}
}

// P7.5: the power fails at the write of each call that writes, and is revived in every way: all is as ahead of the call, or as behind it, and goes on.
func TestPowerFails(t *testing.T) {
	for _, c := range calls() {
		for keep := -1; keep <= 2; keep++ {
			for _, torn := range []bool{false, true} {
				r, s := holding(t, some())
				s.Arm(0)
				wantErr(t, c.what+" with the power armed", c.do(r), 13)
				if s.Writes() != 1 || s.Pending() != 1 {
					t.Errorf("%s: %d writes, %d pending; want 1, 1", c.what, s.Writes(), s.Pending())
				}
				wantDead(t, r, some())
				s.Revive(keep, torn)
				revived := s.Image()
				wantDead(t, r, some())
				wantStill(t, s, revived, 1)
				want := some()
				if keep > 0 {
					c.make(&want)
				}
				again := wantOpened(t, s, want)
				goesOn(t, c, again, want)
				c.make(&want)
				wantOpened(t, s, want)
			}
		}
		if t.Failed() {
			t.Fatal(c.what)
		}
	}
}

// goesOn does the call again, and each of the others that may be done behind it.
func goesOn(t *testing.T, c call, r *replica.Replica, want state) {
	t.Helper()
	wantErr(t, c.what+" again", c.do(r), ok)
	c.make(&want)
	wantState(t, r, want)
	wantErr(t, "Load elsewhere", r.Load(77, api.Cell{Seq: 1}), ok)
	want.blocks[77] = api.Cell{Seq: 1}
	wantState(t, r, want)
	wantErr(t, "Load elsewhere", r.Load(77, none), ok)
}

// P7.5: others' writes are pending on the store when the power fails: however many of them are kept.
func TestPowerFailsBehindOthers(t *testing.T) {
	for _, c := range calls() {
		for keep := range 5 {
			for _, torn := range []bool{false, true} {
				s := from(t, append(laid(some()), blank(1)...))
				r := opened(t, s)
				for k := range 2 {
					s.Write(need, bytes.Repeat([]byte{byte(k)}, sectorBytes))
				}
				s.Arm(0)
				wantErr(t, c.what+" with the power armed", c.do(r), errPower)
				if s.Pending() != 3 {
					t.Errorf("%d pending; want 3", s.Pending())
				}
				s.Revive(keep, torn)
				want := some()
				if keep > 2 {
					c.make(&want)
				}
				wantOpened(t, s, want)
			}
		}
	}
}

// With the power off a call that would write answers ErrPower, and the replica is dead; one that needs no write is answered, and it isn't.
func TestPowerOff(t *testing.T) {
	for _, c := range calls() {
		r, s := holding(t, some())
		s.Fail()
		wantErr(t, "Apply out of bounds", r.Apply(128, none, 0, 7), errRange)
		wantErr(t, "Apply below the fence", r.Apply(3, some().blocks[3], 0, 6), errFence)
		wantErr(t, "Apply of its value", r.Apply(3, some().blocks[3], 0, 7), ok)
		wantErr(t, "Apply of a stale one", r.Apply(3, api.Cell{Seq: 10}, 0, 7), errStale)
		wantErr(t, "Load of its value", r.Load(3, some().blocks[3]), ok)
		wantErr(t, "Fence at the fence", r.Fence(2, 300), ok)
		wantErr(t, "Adopt of its epoch", r.Adopt(5), ok)
		wantErr(t, "Adopt below", r.Adopt(4), errEpoch)
		wantErr(t, "Join as it is", r.Join(4), ok)
		wantErr(t, c.what+" with the power off", c.do(r), 13)
		wantDead(t, r, some())
		s.Revive(1, true)
		wantDead(t, r, some())
		wantStill(t, s, laid(some()), 0)
	}
}

// The power fails and comes back between the calls: nothing is lost, and the replica goes on, for no call on the store has answered ErrPower to it.
func TestPowerFailsBetween(t *testing.T) {
	for _, c := range calls() {
		r, s := holding(t, some())
		s.Fail()
		wantState(t, r, some())
		s.Revive(0, true)
		wantErr(t, c.what, c.do(r), ok)
		want := some()
		c.make(&want)
		wantState(t, r, want)
		wantOpened(t, s, want)
	}
}

// life is a replica whose power fails again and again, and what it has answered so far.
type life struct {
	t      *testing.T
	rnd    *rand.Rand
	r      *replica.Replica
	epoch  int    // the highest that was adopted, or told
	fences [3]int // the highest generations that were fenced, or told
}

// step makes one call, and tells whether it was answered without ErrPower.
func (l *life) step() bool {
	l.t.Helper()
	server, gen := l.rnd.Intn(3), 1+l.rnd.Intn(40)
	b := l.rnd.Intn(4)
	switch l.rnd.Intn(5) {
	case 0:
		err := l.r.Fence(server, gen)
		if err == ok {
			l.fences[server] = max(l.fences[server], gen)
		}
		return err != errPower
	case 1:
		epoch := 1 + l.rnd.Intn(40)
		err := l.r.Adopt(epoch)
		if err == ok && epoch < l.epoch || err == errEpoch && epoch >= l.epoch {
			l.t.Errorf("Adopt(%d) at %d: %d", epoch, l.epoch, err)
		}
		if err == ok {
			l.epoch = epoch
		}
		return err != errPower
	case 2:
		return l.r.Load(b, api.Cell{Seq: l.rnd.Intn(9), Data: ""}) != errPower
	case 3:
		return l.r.Join(l.rnd.Intn(3)) != errPower
	}
	was := l.r.Block(b)
	err := l.r.Apply(b, api.Cell{Seq: was.Seq + l.rnd.Intn(2), Data: mixed(l.rnd.Intn(3), l.rnd.Intn(3))}, server, gen)
	if gen < l.fences[server] && (err == ok || l.r.Block(b) != was) {
		l.t.Errorf("Apply of server %d, generation %d, fenced at %d: %d", server, gen, l.fences[server], err)
	}
	return err != errPower
}

// look wants nothing to have fallen, and takes up what has been told.
func (l *life) look() {
	l.t.Helper()
	m := l.r.Meta()
	if m.Epoch < l.epoch {
		l.t.Errorf("the epoch fell from %d to %d", l.epoch, m.Epoch)
	}
	l.epoch = m.Epoch
	for i, gen := range m.Fences {
		if gen < l.fences[i] {
			l.t.Errorf("the fence of server %d fell from %d to %d", i, l.fences[i], gen)
		}
		l.fences[i] = gen
	}
}

// P7.4, P7.5: the power fails again and again: no fence and no epoch ever falls below what was answered or told, and no Apply of a fenced generation is taken; all is as ahead of the call that failed, or as behind it.
func TestNothingFalls(t *testing.T) {
	for seed := range int64(40) {
		r, s := fresh(t)
		l := &life{t: t, rnd: rand.New(rand.NewSource(seed)), r: r}
		for round := 0; round < 80 && !t.Failed(); round++ {
			s.Arm(l.rnd.Intn(6))
			before := told(l.r)
			for n := 0; n < 12 && l.step(); n++ {
				l.look()
				before = told(l.r)
			}
			s.Fail()
			s.Revive(l.rnd.Intn(3)-1, l.rnd.Intn(2) == 0)
			l.r = opened(t, s)
			l.look()
			oneCall(t, before, told(l.r))
		}
		if t.Failed() {
			t.Fatalf("seed %d", seed)
		}
	}
}

// oneCall wants no more than what one call changes to be unlike: one block, or one number of the meta.
func oneCall(t *testing.T, before, behind state) {
	t.Helper()
	unlike := 0
	for b := range before.blocks {
		if before.blocks[b] != behind.blocks[b] {
			unlike++
		}
	}
	was, is := before.meta, behind.meta
	for i, n := range [5]int{was.Epoch, was.Joined, was.Fences[0], was.Fences[1], was.Fences[2]} {
		if n != [5]int{is.Epoch, is.Joined, is.Fences[0], is.Fences[1], is.Fences[2]}[i] {
			unlike++
		}
	}
	if unlike > 1 {
		t.Errorf("%d things are unlike those ahead of the call that failed", unlike)
	}
}
