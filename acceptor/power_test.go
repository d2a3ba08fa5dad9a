package acceptor_test

import (
	"bytes"
	"math/rand"
	"testing"

	"lagoon/acceptor"
	"lagoon/api"
	"lagoon/store"
)

// wantDead wants an acceptor whose journal is dead to answer ErrPower to each call that would write, to all others what it answered, and to tell what it told; nothing is written.
func wantDead(t *testing.T, a *acceptor.Acceptor, s *store.Store, k known) {
	t.Helper()
	writes, pending := s.Writes(), s.Pending()
	for range 2 {
		for _, c := range callsOn(k) {
			wantErr(t, c.name()+" of a dead one", c.on(a), 13)
		}
		for _, c := range refused(k) {
			if k == some() || k == level() {
				wantErr(t, c.name()+" of a dead one", c.on(a), c.err)
			}
		}
		wantErr(t, "Promise of 0", a.Promise(0), errRange)
		wantErr(t, "Accept of another slot", a.Accept(maxCount, k.done+2, "v"), errStale)
		wantErr(t, "Learn of slot 0", a.Learn(0, ""), errRange)
		wantKnown(t, a, k)
	}
	if s.Writes() != writes || s.Pending() != pending {
		t.Errorf("a dead one writes: %d, %d pending; want %d, %d", s.Writes(), s.Pending(), writes, pending)
	}
}

// goesOn does the call again, if it hasn't been done, and others behind it.
func goesOn(t *testing.T, s *store.Store, c call, k known) {
	t.Helper()
	a := wantOpened(t, s, "s", k)
	want := ok
	if c.kind == 3 && k.done == c.n {
		want = errStale
	}
	wantErr(t, c.name()+" again", c.on(a), want)
	k = c.changed(k)
	wantKnown(t, a, k)
	wantErr(t, "Promise", a.Promise(maxCount), ok)
	k.promised = maxCount
	if k.pending.Ballot < maxCount {
		l := call{2, maxCount, k.done + 1, mixed(100, 8)}
		wantErr(t, l.name(), l.on(a), ok)
		k = l.changed(k)
	}
	l := call{kind: 3, n: maxCount, text: mixed(900, 9)}
	wantErr(t, l.name(), l.on(a), ok)
	wantOpened(t, s, "s", l.changed(k))
}

// failing lets the power fail at each write of a call, and revives the store in every way: all is as ahead of the call, or, if all of its record was kept, as behind it.
func failing(t *testing.T, image [][]byte, k known, c call) {
	t.Helper()
	s := from(t, image)
	wantErr(t, c.name(), c.on(wantOpened(t, s, "s", k)), ok)
	writes := s.Writes()
	for at := range writes {
		pending := 1
		for keep := 0; keep <= pending; keep++ {
			for _, torn := range []bool{false, true} {
				s := from(t, image)
				a := opened(t, s, "s")
				s.Arm(at)
				wantErr(t, c.name()+" with the power armed", c.on(a), 13)
				pending = s.Pending()
				if keep == 0 {
					wantDead(t, a, s, k)
				}
				s.Revive(keep, torn)
				if keep == 0 {
					wantDead(t, a, s, k)
				}
				want := k
				if at == writes-1 && keep == pending {
					want = c.changed(k)
				}
				goesOn(t, s, c, want)
			}
		}
		if t.Failed() {
			t.Fatalf("%s, the power fails at write %d of %d", c.name(), at, writes)
		}
	}
}

// P11.4: the power fails at each write of each call, where there is room.
func TestPowerFails(t *testing.T) {
	for _, k := range append(scenes(), known{state: "s"}) {
		s := holding(t, whole(k)...)
		for _, c := range callsOn(k) {
			failing(t, s.Image(), k, c)
		}
	}
}

// P11.4: the power fails at each write of a Rewrite, and of the Append behind it.
func TestPowerFailsInRewrite(t *testing.T) {
	for _, k := range scenes() {
		s := full(t, k, 0)
		for _, c := range callsOn(k) {
			failing(t, s.Image(), k, c)
		}
	}
}

// P11.4: the same with the room for no more than a part of the record, and with the other area full of what an earlier Rewrite has left.
func TestPowerFailsInLaterRewrite(t *testing.T) {
	k := some()
	s := full(t, k, 0)
	a := opened(t, s, "s")
	for n := 10; s.Writes() < 3*area && !t.Failed(); n++ {
		c := call{2, n, 4, mixed(n%100+1, n)}
		wantErr(t, c.name(), c.on(a), ok)
		k = c.changed(k)
	}
	for _, c := range callsOn(k) {
		failing(t, s.Image(), k, c)
	}
}

// P11.3: with the power off a call that would write answers ErrPower, with room and without, and the acceptor's journal is dead; the others are answered.
func TestPowerOff(t *testing.T) {
	for _, k := range []known{some(), level()} {
		for _, room := range []int{area / 2, 0} {
			for _, c := range callsOn(k) {
				s := full(t, k, room)
				image := s.Image()
				a := opened(t, s, "s")
				s.Fail()
				for _, r := range refused(k) {
					wantErr(t, r.name(), r.on(a), r.err)
				}
				wantErr(t, c.name()+" with the power off", c.on(a), 13)
				wantDead(t, a, s, k)
				s.Revive(1, true)
				wantDead(t, a, s, k)
				for i, b := range s.Image() {
					if !bytes.Equal(b, image[i]) {
						t.Errorf("sector %d is changed", i)
					}
				}
				goesOn(t, s, c, k)
			}
		}
	}
}

// P11.3: a worn journal's error is answered with the power off too, and it isn't dead by it.
func TestWornPowerOff(t *testing.T) {
	image := blank(need)
	image[0] = headOf(maxGen, 0)
	s := onto(t, image, filled(some(), 1)...)
	a := wantOpened(t, s, "s", some())
	s.Fail()
	wantErr(t, "Accept without room", a.Accept(9, 4, mixed(100, 1)), errWorn)
	s.Revive(0, false)
	wantErr(t, "Promise", a.Promise(10), ok)
}

// The power fails and comes back between the calls: nothing is lost, and the acceptor goes on, for no call of its journal has answered ErrPower.
func TestPowerFailsBetween(t *testing.T) {
	for _, k := range scenes() {
		for _, room := range []int{area / 10, 0} {
			for _, c := range callsOn(k) {
				s := full(t, k, room)
				a := opened(t, s, "s")
				s.Fail()
				wantKnown(t, a, k)
				s.Revive(0, true)
				wantErr(t, c.name(), c.on(a), ok)
				wantKnown(t, a, c.changed(k))
				wantOpened(t, s, "s", c.changed(k))
			}
		}
	}
}

// life is an acceptor whose power fails again and again, and what it has told at last.
type life struct {
	t   *testing.T
	rnd *rand.Rand
	a   *acceptor.Acceptor
	was known
	got int // how many calls went well
}

// call is one near what the acceptor tells; not all of them may be.
func (l *life) call() call {
	k := told(l.a)
	switch l.rnd.Intn(5) {
	case 0:
		return call{kind: 1, n: k.promised + l.rnd.Intn(5) - 2}
	case 1:
		return call{kind: 3, n: k.done + l.rnd.Intn(4) - 1, text: mixed(l.rnd.Intn(2)*l.rnd.Intn(1101), l.rnd.Intn(9))}
	}
	return call{2, k.promised + l.rnd.Intn(4) - 1, k.done + 1 + l.rnd.Intn(9)/8, mixed(l.rnd.Intn(101), l.rnd.Intn(9))}
}

// look wants nothing to be forgotten, and takes up what is told.
func (l *life) look() {
	l.t.Helper()
	is := told(l.a)
	if is.promised < l.was.promised || is.done < l.was.done || is.promised < is.pending.Ballot {
		l.t.Errorf("from %v to %v", brief(l.was), brief(is))
	}
	if is.done == l.was.done {
		if is.state != l.was.state {
			l.t.Errorf("another state of the same slot: %v, %v", brief(l.was), brief(is))
		}
		if is.pending != l.was.pending && is.pending.Ballot <= l.was.pending.Ballot {
			l.t.Errorf("%v is replaced by %v", brief(l.was), brief(is))
		}
	}
	l.was = is
}

// P11.4: the power fails again and again: the promised ballot and how many slots are done never fall, what is accepted is replaced by nothing but a value of a higher ballot till the slot is done, and all is as ahead of the call that failed, or as behind it.
func TestNeverForgotten(t *testing.T) {
	for seed := range int64(30) {
		s := holding(t)
		l := &life{t: t, rnd: rand.New(rand.NewSource(seed)), a: opened(t, s, "s"), was: known{state: "s"}}
		for round := 0; round < 60 && !t.Failed(); round++ {
			s.Arm(l.rnd.Intn(60))
			c := l.call()
			err := c.on(l.a)
			for n := 0; n < 60 && err != errPower; n++ {
				l.took(c, err)
				c = l.call()
				err = c.on(l.a)
			}
			ahead := told(l.a)
			if err != errPower {
				l.took(c, err)
				c, ahead = call{}, l.was
			}
			wantKnown(t, l.a, l.was)
			s.Fail()
			s.Revive(l.rnd.Intn(40)-1, l.rnd.Intn(2) == 0)
			l.a = opened(t, s, "s")
			if is := told(l.a); is != ahead && is != c.changed(ahead) {
				t.Errorf("%v is neither as ahead of %s nor as behind it", brief(is), c.name())
			}
			l.look()
		}
		if t.Failed() || l.got < 300 {
			t.Fatalf("seed %d, %d calls went well", seed, l.got)
		}
	}
}

// took holds what a call that was answered has made against what it should.
func (l *life) took(c call, err api.Errno) {
	l.t.Helper()
	want := l.was
	if err == ok {
		want = c.changed(want)
		l.got++
	}
	wantKnown(l.t, l.a, want)
	l.look()
}
