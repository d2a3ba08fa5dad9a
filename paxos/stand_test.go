package paxos_test

import (
	"testing"

	"lagoon/api"
)

// ballotOf is the least ballot above another one that leaves id, divided by n.
func ballotOf(above, id, n int) int {
	b := above/n*n + id
	if b <= above {
		b += n
	}
	return b
}

// prepare is the message of one that stands.
func prepare(ballot, slot int) api.Message {
	return api.Message{Kind: mPrepare, Ballot: ballot, Slot: slot}
}

// propose is the message of one that leads.
func propose(ballot, slot int, value string) api.Message {
	return api.Message{Kind: mPropose, Ballot: ballot, Slot: slot, Accepted: api.Accepted{Ballot: ballot, Value: value}}
}

// learn is the message of one that is ahead.
func learn(slot int, state string) api.Message {
	return api.Message{Kind: mLearn, Slot: slot, State: state}
}

// P12.2: from each promised ballot, of each peer of two and of three, again and again.
func TestStand(t *testing.T) {
	for n := 2; n <= 3; n++ {
		for id := range n {
			for _, promised := range []int{0, 1, 2, 3, 4, 5, 6, 7, 100, 101, 102, 1 << 32, maxCount - 20, maxCount - 19, maxCount - 18} {
				for _, done := range []int{0, 5, maxCount - 1, maxCount} {
					r := started(t, id, n, recordsOf(promised, done, some(t), none)...)
					state := textOf(t, r.p.State())
					ballot := promised
					for range 4 {
						ballot = ballotOf(ballot, id, n)
						out, err := r.p.Stand(100)
						wantOut(t, "Stand", out, err, r.out(r.others(prepare(ballot, done+1))...)...)
						r.wantTold("it stands", false, ballot, done, state)
						r.wantTend("it stands", r.others(prepare(ballot, done+1))...)
					}
					if r.s.Writes() != 4 {
						t.Errorf("%d writes; want 4", r.s.Writes())
					}
					r.start(100)
					r.wantTold("begun again", false, ballot, done, state)
					r.wantTend("begun again")
				}
			}
		}
	}
}

// P12.2: near the bound: up to MaxCount there is a ballot, above it ErrBallot, and nothing is changed.
func TestStandBound(t *testing.T) {
	for n := 1; n <= 3; n++ {
		for id := range n {
			for promised := maxCount - 5; promised <= maxCount; promised++ {
				r := started(t, id, n, promiseOf(promised))
				for p := ballotOf(promised, id, n); p <= maxCount; p += n {
					out, err := r.p.Stand(100)
					wantOut(t, "Stand", out, err, r.out(r.others(prepare(p, 1))...)...)
					if r.p.Ballot() != p || r.p.Leads() != (n == 1) {
						t.Errorf("peer %d of %d: %d, leads %v; want %d", id, n, r.p.Ballot(), r.p.Leads(), p)
					}
				}
				for range 2 {
					r.wantUnchanged("Stand at the bound", 20, func() ([]api.Message, api.Errno) { return r.p.Stand(100) })
				}
				r.s.Fail()
				r.wantUnchanged("Stand at the bound, without power", errBallot, func() ([]api.Message, api.Errno) { return r.p.Stand(100) })
			}
		}
	}
}

// P12.2: at the bound one that stands, and one that leads with a value under way, go on doing so.
func TestStandBoundRoles(t *testing.T) {
	for id := range 3 {
		r := started(t, id, 3, promiseOf(maxCount-3))
		ballot := r.stand(100)
		r.wantUnchanged("Stand at the bound, of one that stands", errBallot, func() ([]api.Message, api.Errno) { return r.p.Stand(100) })
		r.wantTend("it stands", r.others(prepare(ballot, 1))...)
		r.wantHeard("MsgPromise", 100, api.Message{Kind: mPromise, From: (id + 1) % 3, Ballot: ballot, Slot: 1})
		r.wantHeard("MsgRequest", 100, request(mountOf(0, 1, 1)), r.others(propose(ballot, 1, valueOf(t, mountOf(0, 1, 1))))...)
		r.wantUnchanged("Stand at the bound, of one that leads", errBallot, func() ([]api.Message, api.Errno) { return r.p.Stand(100) })
		r.wantTold("it leads", true, ballot, 0, begin(t, 3))
	}
}

// P12.2: one peer alone leads at once. What it has pending is proposed, and decided.
func TestStandAlone(t *testing.T) {
	state := some(t)
	lock := after(3, lockOf(0, 1, 4, 1, 5, 1))
	locked, view := behind(t, state, lock)
	passed, _ := behind(t, state, passOf(70))
	for _, x := range []struct {
		what    string
		pending api.Accepted
		done    int
		state   string
		want    []api.Message
	}{
		{"nothing", none, 4, state, nil},
		{"a command", api.Accepted{Ballot: 2, Value: valueOf(t, lock)}, 5, locked, []api.Message{answer(lock, view)}},
		{"the promised ballot's", api.Accepted{Ballot: 6, Value: valueOf(t, lock)}, 5, locked, []api.Message{answer(lock, view)}},
		{"a CmdPass", api.Accepted{Ballot: 2, Value: valueOf(t, passOf(70))}, 5, passed, nil},
		{"a text that is no command's", api.Accepted{Ballot: 2, Value: "v"}, 5, state, nil},
		{"the longest text", api.Accepted{Ballot: 2, Value: mixed(100, 1)}, 5, state, nil},
		{"a command that is stale", api.Accepted{Ballot: 2, Value: valueOf(t, lockOf(0, 1, 2, 1, 5, 1))}, 5, state, nil},
	} {
		r := started(t, 0, 1, recordsOf(6, 4, state, x.pending)...)
		out, err := r.p.Stand(200)
		wantOut(t, "Stand with "+x.what, out, err, x.want...)
		r.wantTold("behind "+x.what, true, 7, x.done, x.state)
		r.wantTend("behind " + x.what)
		out, err = r.p.Stand(200)
		wantOut(t, "Stand again", out, err)
		r.wantTold("again", true, 8, x.done, x.state)
		r.start(200)
		r.wantTold("begun again", false, 8, x.done, x.state)
	}
}

// P12.2: what is pending is the best: it is proposed, if no voter has one of a higher ballot.
func TestStandPending(t *testing.T) {
	for _, pending := range []string{"v", valueOf(t, passOf(3)), mixed(100, 2)} {
		r := started(t, 2, 3, recordsOf(9, 4, some(t), api.Accepted{Ballot: 7, Value: pending})...)
		out, err := r.p.Stand(100)
		wantOut(t, "Stand", out, err, r.out(r.others(prepare(11, 5))...)...)
		r.wantHeard("MsgPromise", 100, api.Message{Kind: mPromise, From: 0, Ballot: 11, Slot: 5, Accepted: api.Accepted{Ballot: 7, Value: "another"}}, r.others(propose(11, 5, pending))...)
		r.wantTold("it leads", true, 11, 4, some(t))
	}
}

// P12.2: of a peer that leads, that stands, and that has votes and a value under way: it stands anew, it alone has voted, and the best is what is pending.
func TestStandAgain(t *testing.T) {
	r := started(t, 0, 3)
	ballot := r.stand(100)
	r.wantHeard("MsgPromise with a better one", 100, api.Message{Kind: mPromise, From: 1, Ballot: ballot, Slot: 1, Accepted: api.Accepted{Ballot: 2, Value: "v"}}, r.others(propose(ballot, 1, "v"))...)
	out, err := r.p.Stand(100)
	wantOut(t, "Stand of one that leads", out, err, r.out(r.others(prepare(6, 1))...)...)
	r.wantTold("it stands", false, 6, 0, begin(t, 3))
	r.wantTend("it stands", r.others(prepare(6, 1))...)
	r.wantUnheard("MsgAccepted of before", api.Message{Kind: mAccepted, From: 1, Ballot: 3, Slot: 1})
	r.wantUnheard("MsgPromise of before", api.Message{Kind: mPromise, From: 1, Ballot: 3, Slot: 1})
	r.wantHeard("MsgPromise", 100, api.Message{Kind: mPromise, From: 2, Ballot: 6, Slot: 1}, r.others(propose(6, 1, "v"))...)

	// What is learned meanwhile is behind both ballots.
	r = started(t, 0, 3)
	r.stand(100)
	r.wantHeard("MsgLearn", 100, api.Message{Kind: mLearn, From: 2, Slot: 3, State: some(t)})
	r.wantTend("it stands, and has learned", r.others(prepare(3, 4))...)
	r.stand(100)
	r.wantTend("it stands", r.others(prepare(6, 4))...)
	r.wantHeard("MsgPromise", 100, api.Message{Kind: mPromise, From: 2, Ballot: 6, Slot: 4})
	r.wantTend("it leads, with nothing")
	r.wantTold("it leads", true, 6, 3, some(t))
}

// P12.2: a best that the acceptor didn't take is gone, once the peer stands again.
func TestStandForgets(t *testing.T) {
	r := started(t, 1, 2)
	r.stand(100)
	out, err := r.hear(100, api.Message{Kind: mPromise, From: 0, Ballot: 1, Slot: 1, Accepted: api.Accepted{Ballot: 7}})
	wantErr(t, "MsgPromise with the empty text", out, err, errRange)
	r.wantTold("it leads", true, 1, 0, begin(t, 3))
	r.wantTend("it leads")
	r.stand(100)
	r.wantHeard("MsgPromise", 100, api.Message{Kind: mPromise, From: 0, Ballot: 3, Slot: 1})
	r.wantTold("it leads", true, 3, 0, begin(t, 3))
	r.wantTend("it leads, with nothing")
}

// P12.3: Pass of a peer that leads: how much time has passed above the mark, at most MaxPass.
func TestPass(t *testing.T) {
	for _, x := range []struct{ now, d int }{{101, 1}, {102, 2}, {160, 60}, {100 + maxPass, maxPass}, {101 + maxPass, maxPass}, {100 + 2*maxPass, maxPass}, {maxTime, maxPass}} {
		r := started(t, 0, 3)
		ballot := r.lead(100)
		value := valueOf(t, passOf(x.d))
		out, err := r.p.Pass(x.now)
		wantOut(t, "Pass", out, err, r.out(r.others(propose(ballot, 1, value))...)...)
		r.wantTend("a value is under way", r.others(propose(ballot, 1, value))...)
		r.wantUnchanged("Pass with a value under way", ok, func() ([]api.Message, api.Errno) { return r.p.Pass(maxTime) })
		state, _ := behind(t, begin(t, 3), passOf(x.d))
		r.wantHeard("MsgAccepted", x.now, api.Message{Kind: mAccepted, From: 2, Ballot: ballot, Slot: 1}, r.others(learn(1, state))...)
		r.wantTold("it passed", true, ballot, 1, state)
	}
}

// P12.3: Pass does nothing at and below the mark, and of a peer that doesn't lead, or has a value under way.
func TestPassNothing(t *testing.T) {
	pass := func(r *rig, now int) {
		t.Helper()
		r.wantUnchanged("Pass", ok, func() ([]api.Message, api.Errno) { return r.p.Pass(now) })
	}
	for n := 2; n <= 3; n++ {
		r := started(t, 1, n)
		for _, now := range goodTimes {
			pass(r, now)
		}
		r.stand(500)
		for _, now := range goodTimes {
			pass(r, now)
		}
		r = started(t, 1, n)
		r.lead(500)
		for _, now := range []int{0, 1, 100, 101, 499, 500} {
			pass(r, now)
		}
		r.wantHeard("MsgRequest", 600, request(mountOf(0, 1, 1)), r.others(propose(r.p.Ballot(), 1, valueOf(t, after(100, mountOf(0, 1, 1)))))...)
		for _, now := range goodTimes {
			pass(r, now)
		}
		r.wantHeard("MsgLearn", 700, api.Message{Kind: mLearn, From: 0, Slot: 1, State: some(t)})
		for _, now := range []int{0, 600, 699, 700} {
			pass(r, now)
		}
		out, err := r.p.Pass(703)
		wantOut(t, "Pass", out, err, r.out(r.others(propose(r.p.Ballot(), 2, valueOf(t, passOf(3))))...)...)
	}
}

// P12.3: of one peer alone Pass is decided at once; the mark goes on with it.
func TestPassAlone(t *testing.T) {
	r := started(t, 0, 1)
	r.stand(100)
	state := begin(t, 3)
	slot := 0
	for _, x := range []struct{ now, d int }{{101, 1}, {101, 0}, {90, 0}, {171, 70}, {171 + maxPass + 9, maxPass}, {171 + maxPass + 9, 0}, {maxTime, maxPass}, {maxTime, 0}, {0, 0}} {
		out, err := r.p.Pass(x.now)
		wantOut(t, "Pass", out, err)
		if x.d > 0 {
			slot++
			state, _ = behind(t, state, passOf(x.d))
		}
		r.wantTold("it passed", true, 1, slot, state)
		r.wantTend("it passed")
	}
}

// P12.3: a Pass beyond MaxTime is decided, and changes nothing but the slot.
func TestPassBeyond(t *testing.T) {
	late := stateOf(t, some(t))
	late.Time = maxTime - 2
	r := started(t, 0, 1, learnOf(3, textOf(t, late)))
	r.stand(100)
	out, err := r.p.Pass(103)
	wantOut(t, "Pass", out, err)
	r.wantTold("it passed", true, 1, 4, textOf(t, late))
	out, err = r.p.Pass(105)
	wantOut(t, "Pass", out, err)
	passed, _ := behind(t, textOf(t, late), passOf(2))
	r.wantTold("it passed", true, 1, 5, passed)
}

// P12.3: Tend of one that stands goes to all who haven't voted; it writes and changes nothing.
func TestTendStands(t *testing.T) {
	for n := 2; n <= 3; n++ {
		for id := range n {
			r := started(t, id, n, promiseOf(7))
			r.wantTend("it follows")
			ballot := r.stand(100)
			for _, now := range goodTimes {
				r.wantUnchanged("a wrong MsgPromise", ok, func() ([]api.Message, api.Errno) {
					return r.hear(now, api.Message{Kind: mPromise, From: (id + 1) % n, Ballot: ballot - 1, Slot: 1})
				})
				out, err := r.p.Tend(now)
				wantOut(t, "Tend", out, err, r.out(r.others(prepare(ballot, 1))...)...)
			}
			r.wantHeard("MsgLearn", 100, api.Message{Kind: mLearn, From: (id + 1) % n, Slot: 8, State: some(t)})
			r.wantTend("it stands, and has learned", r.others(prepare(ballot, 9))...)
			r.wantHeard("MsgPrepare", 100, api.Message{Kind: mPrepare, From: (id + 1) % n, Ballot: ballot + 1, Slot: 9}, api.Message{Kind: mPromise, To: (id + 1) % n, Ballot: ballot + 1, Slot: 9})
			r.wantTend("it follows")
		}
	}
}

// P12.3: Tend of one that leads goes to all who haven't accepted what is under way, and to nobody without that.
func TestTendLeads(t *testing.T) {
	r := started(t, 1, 3)
	ballot := r.lead(100)
	r.wantTend("it leads, with nothing under way")
	mount := mountOf(0, 1, 1)
	r.wantHeard("MsgRequest", 100, request(mount), r.others(propose(ballot, 1, valueOf(t, mount)))...)
	for range 3 {
		r.wantTend("a value is under way", r.others(propose(ballot, 1, valueOf(t, mount)))...)
	}
	r.wantHeard("MsgPrepare of the own ballot", 100, api.Message{Kind: mPrepare, From: 0, Ballot: ballot, Slot: 1}, api.Message{Kind: mPromise, To: 0, Ballot: ballot, Slot: 1, Accepted: api.Accepted{Ballot: ballot, Value: valueOf(t, mount)}})
	r.wantTend("a value is under way", r.others(propose(ballot, 1, valueOf(t, mount)))...)
	state, view := behind(t, begin(t, 3), mount)
	r.wantHeard("MsgAccepted", 100, api.Message{Kind: mAccepted, From: 0, Ballot: ballot, Slot: 1}, append(r.others(learn(1, state)), answer(mount, view))...)
	r.wantTend("nothing is under way")
	r.wantHeard("MsgRequest", 101, request(mountOf(1, 1, 1)), r.others(propose(ballot, 2, valueOf(t, after(1, mountOf(1, 1, 1)))))...)
	r.wantHeard("MsgNack", 101, api.Message{Kind: mNack, From: 2, Ballot: ballot + 1, Slot: 2})
	r.wantTend("it follows")
}

// P12.3: who has accepted isn't asked again. One of the two others makes most, so that there is one that has accepted, and a value under way still, behind an error of the acceptor alone.
func TestTendAccepted(t *testing.T) {
	r := started(t, 1, 3)
	ballot := r.lead(100)
	r.wantHeard("MsgRequest", 100, request(mountOf(0, 1, 1)), r.others(propose(ballot, 1, valueOf(t, mountOf(0, 1, 1))))...)
	r.s.Arm(0)
	out, err := r.hear(100, api.Message{Kind: mAccepted, From: 2, Ballot: ballot, Slot: 1})
	wantErr(t, "MsgAccepted with the power armed", out, err, errPower)
	one := propose(ballot, 1, valueOf(t, mountOf(0, 1, 1)))
	r.wantTend("2 has accepted", one)
	r.wantTold("it couldn't learn", true, ballot, 0, begin(t, 3))
	out, err = r.hear(100, api.Message{Kind: mAccepted, From: 0, Ballot: ballot, Slot: 1})
	wantErr(t, "MsgAccepted without power", out, err, errPower)
	r.wantTend("all have accepted")
}
