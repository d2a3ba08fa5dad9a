package paxos_test

import (
	"fmt"
	"math"
	"testing"

	"lagoon/api"
)

// pendingRig is a peer of three that has promised 9, done four slots, and accepted "pending" with 7.
func pendingRig(t *testing.T, id int) *rig {
	t.Helper()
	return started(t, id, 3, recordsOf(9, 4, some(t), api.Accepted{Ballot: 7, Value: "pending"})...)
}

// eachRole is a peer 1 of three in each role, with its own ballot promised, four slots done, and nothing pending; it stands or leads with 10.
func eachRole(t *testing.T) map[string]*rig {
	t.Helper()
	rigs := map[string]*rig{}
	for _, role := range []string{"follows", "stands", "leads"} {
		rigs[role] = started(t, 1, 3, recordsOf(9, 4, some(t), none)...)
	}
	rigs["follows"].stand(100)
	rigs["follows"].wantHeard("MsgNack", 100, api.Message{Kind: mNack, From: 0, Ballot: 11, Slot: 5})
	rigs["stands"].stand(100)
	rigs["leads"].lead(100)
	for role, r := range rigs {
		r.wantTold(role, role == "leads", 10, 4, some(t))
	}
	return rigs
}

// farOff are numbers that are far beside all bounds.
func farOff() []int {
	return []int{math.MinInt, math.MinInt + 1, -1 << 40, -1 << 32, 1 << 32, 1<<32 + 1, maxCount + 1, maxCount + 2, 1 << 62, math.MaxInt - 1, math.MaxInt}
}

// misfits are messages that a peer of n may not be handed: of no kind that is heard, from nobody who sends its kind, or to another one.
func misfits(t *testing.T, id, n int) []api.Message {
	var l []api.Message
	state := some(t)
	for _, kind := range append([]int{-1, 0, 1, 2, 3, 4, 5, 6, 7, 8, 9, 10, 257, 264}, farOff()...) {
		for _, from := range append([]int{-1, 0, 1, 2, 3, 4, 7, 8, 9, 10, 11, 12}, farOff()...) {
			for _, to := range append([]int{-1, 0, 1, 2, 3, 8}, farOff()...) {
				heard := kind >= 1 && kind <= 5 || kind == 7 || kind == 8
				fit := from >= 0 && from < n && from != id
				if kind == 8 {
					fit = from >= 8 && from <= 10
				}
				if !heard || !fit || to != id {
					l = append(l, api.Message{Kind: api.MsgKind(kind), From: from, To: to, Ballot: 9, Slot: 1, State: state, Accepted: api.Accepted{Ballot: 9, Value: "v"}, Command: mountOf(max(0, min(from-8, 2)), 1, 1)})
				}
			}
		}
	}
	return l
}

// P12.4: to whom a message has to go, which kinds are heard, and from whom.
func TestErrKind(t *testing.T) {
	for n := 1; n <= 3; n++ {
		for id := range n {
			r := started(t, id, n)
			ballot := r.stand(100)
			sent, writes := r.tend(), r.s.Writes()
			for _, m := range misfits(t, id, n) {
				out, err := r.p.Handle(100, m)
				wantErr(t, fmt.Sprintf("peer %d of %d: kind %d from %d to %d", id, n, m.Kind, m.From, m.To), out, err, 19)
				if r.s.Writes() != writes || r.p.Ballot() != ballot || r.p.Done() != 0 {
					t.Fatalf("peer %d of %d: kind %d from %d to %d does something", id, n, m.Kind, m.From, m.To)
				}
			}
			r.wantTold("behind all these", n == 1, ballot, 0, begin(t, 3))
			r.wantTend("behind all these", sent...)
		}
	}
}

// P12.4: the kinds that are heard, from each other peer and each server: not ErrKind.
func TestHeard(t *testing.T) {
	for n := 1; n <= 3; n++ {
		for id := range n {
			for _, kind := range []api.MsgKind{1, 2, 3, 4, 5, 7, 8} {
				for from := range 11 {
					if kind == mRequest && from < 8 || kind != mRequest && (from >= n || from == id) {
						continue
					}
					r := started(t, id, n)
					if _, err := r.hear(100, api.Message{Kind: kind, From: from}); err != ok {
						t.Errorf("peer %d of %d: kind %d from %d: %d", id, n, kind, from, err)
					}
				}
			}
		}
	}
}

// P12.4: MsgPrepare with a ballot below the promised one, or below 1: MsgNack, and nothing is changed.
func TestPrepareLow(t *testing.T) {
	for role, r := range eachRole(t) {
		for _, ballot := range []int{math.MinInt, -1 << 32, -1, 0, 1, 5, 8, 9} {
			for _, slot := range []int{-1, 0, 1, 4, 5, 6, maxCount + 1} {
				for from := range 3 {
					if from == r.id {
						continue
					}
					r.wantHeard(role, 100, api.Message{Kind: mPrepare, From: from, Ballot: ballot, Slot: slot}, api.Message{Kind: mNack, To: from, Ballot: 10, Slot: 5})
				}
			}
		}
		r.wantTold(role, role == "leads", 10, 4, some(t))
		r.wantTend(role, map[string][]api.Message{"stands": r.others(prepare(10, 5))}[role]...)
	}
	fresh := started(t, 0, 2)
	for _, ballot := range []int{math.MinInt, -1, 0} {
		fresh.wantHeard("a new one", 100, api.Message{Kind: mPrepare, From: 1, Ballot: ballot, Slot: 1}, api.Message{Kind: mNack, To: 1, Ballot: 0, Slot: 1})
	}
	fresh.wantTold("a new one", false, 0, 0, begin(t, 3))
	fresh.wantHeard("a new one", 100, api.Message{Kind: mPrepare, From: 1, Ballot: 1, Slot: 1}, api.Message{Kind: mPromise, To: 1, Ballot: 1, Slot: 1})
}

// P12.4: MsgPrepare with the promised ballot: a promise again, which writes nothing; who stands or leads with it goes on, who has another own one follows.
func TestPrepareSame(t *testing.T) {
	for role, r := range eachRole(t) {
		sent, writes := r.tend(), r.s.Writes()
		for range 2 {
			r.wantHeard(role, 100, api.Message{Kind: mPrepare, From: 2, Ballot: 10, Slot: 5}, api.Message{Kind: mPromise, To: 2, Ballot: 10, Slot: 5})
		}
		r.wantTold(role, role == "leads", 10, 4, some(t))
		r.wantTend(role, sent...)
		if r.s.Writes() != writes {
			t.Errorf("%s: a promise that was given writes", role)
		}
	}
	r := pendingRig(t, 1)
	for range 2 {
		r.wantHeard("pending", 100, api.Message{Kind: mPrepare, From: 0, Ballot: 9, Slot: 5}, api.Message{Kind: mPromise, To: 0, Ballot: 9, Slot: 5, Accepted: api.Accepted{Ballot: 7, Value: "pending"}})
	}
	if r.s.Writes() != 0 {
		t.Error("a promise that was given writes")
	}
}

// P12.4: MsgPrepare with a higher ballot: it is promised, and who stands or leads follows.
func TestPrepareHigh(t *testing.T) {
	for _, ballot := range []int{11, 12, 300, 1 << 32, maxCount} {
		for role, r := range eachRole(t) {
			for _, from := range []int{0, 2} {
				r.wantHeard(role, 100, api.Message{Kind: mPrepare, From: from, Ballot: ballot, Slot: 5}, api.Message{Kind: mPromise, To: from, Ballot: ballot, Slot: 5})
				r.wantTold(role, false, ballot, 4, some(t))
				r.wantTend(role)
			}
			r.wantUnheard("MsgPromise of before", api.Message{Kind: mPromise, From: 2, Ballot: 10, Slot: 5})
			r.wantUnheard("MsgAccepted of before", api.Message{Kind: mAccepted, From: 2, Ballot: 10, Slot: 5})
			r.start(100)
			r.wantTold("begun again", false, ballot, 4, some(t))
		}
	}
}

// P12.4: MsgPrepare with a ballot above MaxCount: what the acceptor answers, and nothing is changed.
func TestPrepareAbove(t *testing.T) {
	for role, r := range eachRole(t) {
		for _, ballot := range []int{maxCount + 1, maxCount + 2, 1 << 62, math.MaxInt} {
			for _, slot := range []int{1, 5, 6} {
				r.wantUnchanged(role, 2, func() ([]api.Message, api.Errno) {
					return r.hear(100, api.Message{Kind: mPrepare, From: 0, Ballot: ballot, Slot: slot})
				})
			}
		}
	}
}

// P12.4: MsgPromise has the State, if the slot of MsgPrepare is below the next one, and what is pending, whichever slot it was.
func TestPrepareSlots(t *testing.T) {
	pending := api.Accepted{Ballot: 7, Value: "pending"}
	for i, slot := range append([]int{-1, 0, 1, 2, 3, 4, 5, 6, 7, maxCount}, farOff()...) {
		r := pendingRig(t, 0)
		want := api.Message{Kind: mPromise, To: 1 + i%2, Ballot: 9 + i, Slot: 5, Accepted: pending}
		if slot <= 4 {
			want.State = some(t)
		}
		r.wantHeard(fmt.Sprint("slot ", slot), 100, api.Message{Kind: mPrepare, From: 1 + i%2, Ballot: 9 + i, Slot: slot}, want)
		fresh := started(t, 0, 3)
		want = api.Message{Kind: mPromise, To: 1, Ballot: 1 + i, Slot: 1}
		if slot <= 0 {
			want.State = begin(t, 3)
		}
		fresh.wantHeard(fmt.Sprint("slot ", slot), 100, api.Message{Kind: mPrepare, From: 1, Ballot: 1 + i, Slot: slot}, want)
	}
	all := started(t, 0, 3, learnOf(maxCount, some(t)))
	all.wantHeard("all slots done", 100, api.Message{Kind: mPrepare, From: 1, Ballot: 1, Slot: maxCount}, api.Message{Kind: mPromise, To: 1, Ballot: 1, Slot: maxCount + 1, State: some(t)})
	all.wantHeard("all slots done", 100, api.Message{Kind: mPrepare, From: 1, Ballot: 1, Slot: maxCount + 1}, api.Message{Kind: mPromise, To: 1, Ballot: 1, Slot: maxCount + 1})
}

// vote is a MsgPromise for the own ballot of a peer that stands in eachRole.
func vote(from, slot int, state string, accepted api.Accepted) api.Message {
	return api.Message{Kind: mPromise, From: from, Ballot: 10, Slot: slot, State: state, Accepted: accepted}
}

// P12.4: MsgPromise to one that doesn't stand, or of another ballot.
func TestPromiseUnheard(t *testing.T) {
	for role, r := range eachRole(t) {
		for _, ballot := range append([]int{-1, 0, 1, 7, 9, 11, 13, maxCount}, farOff()...) {
			for _, slot := range []int{0, 4, 5, 6, 9} {
				m := vote(0, slot, some(t), api.Accepted{Ballot: 8, Value: "v"})
				m.Ballot = ballot
				r.wantUnheard(role, m)
			}
		}
		if role == "stands" {
			continue
		}
		for _, slot := range []int{0, 4, 5, 6, 9} {
			r.wantUnheard(role, vote(0, slot, some(t), api.Accepted{Ballot: 8, Value: "v"}))
		}
	}
}

// P12.4: MsgPromise of a slot above the next one, with a State that is none: nothing, and whose it is hasn't voted.
func TestPromiseNoState(t *testing.T) {
	good := some(t)
	r := eachRole(t)["stands"]
	for _, slot := range append([]int{6, 7, maxCount, maxCount + 1}, farOff()[7:]...) {
		for _, s := range []string{"", "s", good + "\x00", good[:len(good)-1], good[1:], mixed(1100, 1), mixed(1<<20, 1)} {
			r.wantUnheard("MsgPromise with no state", vote(2, slot, s, api.Accepted{Ballot: 8, Value: "v"}))
		}
	}
	r.wantTend("nobody has voted", r.others(prepare(10, 5))...)
}

// P12.4: MsgPromise of a slot above the next one: the slot ahead of it is learned, and what is accepted counts for the next one behind it.
func TestPromiseAhead(t *testing.T) {
	state, _ := behind(t, some(t), passOf(9))
	for _, slot := range []int{6, 7, 1000, maxCount, maxCount + 1} {
		r := eachRole(t)["stands"]
		r.wantHeard("MsgPromise of one ahead", 120, vote(0, slot, state, none))
		r.wantTold("it leads", true, 10, slot-1, state)
		r.wantTend("it leads")
		r.start(130)
		r.wantTold("begun again", false, 10, slot-1, state)
		if slot > maxCount {
			continue
		}
		r = eachRole(t)["stands"]
		r.wantHeard("MsgPromise of one ahead", 120, vote(0, slot, state, api.Accepted{Ballot: 3, Value: "v"}), r.others(propose(10, slot, "v"))...)
		r.wantTold("it leads", true, 10, slot-1, state)
	}
	r := eachRole(t)["stands"]
	r.wantUnchanged("beyond all slots", 2, func() ([]api.Message, api.Errno) { return r.hear(120, vote(0, maxCount+2, state, none)) })
	r.wantUnchanged("far beyond all slots", 2, func() ([]api.Message, api.Errno) { return r.hear(120, vote(0, math.MaxInt, state, none)) })
}

// P12.4: what was the best for a slot that is learned meanwhile counts no more.
func TestPromiseAheadDropsBest(t *testing.T) {
	state, _ := behind(t, some(t), passOf(9))
	r := pendingRig(t, 1)
	r.stand(100)
	r.wantHeard("MsgPromise of one ahead", 120, vote(2, 6, state, none))
	r.wantTold("it leads", true, 10, 5, state)
	r.wantTend("it leads, with nothing")
	r = pendingRig(t, 1)
	r.stand(100)
	r.wantHeard("MsgPromise of one ahead, with a lower ballot", 120, vote(2, 6, state, api.Accepted{Ballot: 1, Value: "w"}), r.others(propose(10, 6, "w"))...)
	r = pendingRig(t, 1)
	r.stand(100)
	r.wantHeard("MsgLearn", 120, api.Message{Kind: mLearn, From: 0, Slot: 5, State: state})
	r.wantHeard("MsgPromise", 120, vote(2, 6, "", none))
	r.wantTold("it leads", true, 10, 5, state)
	r.wantTend("it leads, with nothing")
}

// P12.4: MsgPromise of the next slot, with something accepted of a higher, the same and a lower ballot than the best's: the value of the highest is proposed, whatever text it is.
func TestPromiseBest(t *testing.T) {
	for _, x := range []struct {
		accepted api.Accepted
		want     string
	}{
		{none, "pending"},
		{api.Accepted{Ballot: -1, Value: "w"}, "pending"},
		{api.Accepted{Ballot: 0, Value: "w"}, "pending"},
		{api.Accepted{Ballot: 1, Value: "w"}, "pending"},
		{api.Accepted{Ballot: 6, Value: "w"}, "pending"},
		{api.Accepted{Ballot: 7, Value: "w"}, "pending"},
		{api.Accepted{Ballot: 8, Value: "w"}, "w"},
		{api.Accepted{Ballot: 9, Value: mixed(100, 1)}, mixed(100, 1)},
		{api.Accepted{Ballot: 10, Value: "w"}, "w"},
		{api.Accepted{Ballot: 11, Value: valueOf(t, passOf(4))}, valueOf(t, passOf(4))},
		{api.Accepted{Ballot: maxCount, Value: "\x00"}, "\x00"},
		{api.Accepted{Ballot: math.MaxInt, Value: some(t)[:100]}, some(t)[:100]},
	} {
		for from := range 3 {
			if from == 1 {
				continue
			}
			r := pendingRig(t, 1)
			r.stand(100)
			r.wantHeard(fmt.Sprintf("MsgPromise with %v", x.accepted), 120, vote(from, 5, "", x.accepted), r.others(propose(10, 5, x.want))...)
			r.wantTold("it leads", true, 10, 4, some(t))
			r.wantTend("it leads", r.others(propose(10, 5, x.want))...)
			r.wantHeard("MsgPrepare", 120, api.Message{Kind: mPrepare, From: from, Ballot: 11, Slot: 5}, api.Message{Kind: mPromise, To: from, Ballot: 11, Slot: 5, Accepted: api.Accepted{Ballot: 10, Value: x.want}})
		}
	}
}

// P12.4: MsgPromise with something accepted for a slot below the next one: the vote counts, what was accepted doesn't.
func TestPromiseBelow(t *testing.T) {
	for _, slot := range []int{math.MinInt, -1, 0, 1, 4} {
		r := eachRole(t)["stands"]
		r.wantHeard("MsgPromise of one behind", 120, vote(2, slot, mixed(9, 1), api.Accepted{Ballot: 8, Value: "v"}))
		r.wantTold("it leads", true, 10, 4, some(t))
		r.wantTend("it leads, with nothing")
	}
}

// P12.4: a best whose value may not be accepted: what the acceptor answers; the peer leads, and a text that isn't empty is under way.
func TestPromiseBadValue(t *testing.T) {
	for _, n := range []int{0, 101, 102, 5000} {
		r := eachRole(t)["stands"]
		writes := r.s.Writes()
		out, err := r.hear(120, vote(2, 5, "", api.Accepted{Ballot: 8, Value: mixed(n, 1)}))
		wantErr(t, fmt.Sprintf("a best of %d bytes", n), out, err, 2)
		r.wantTold("it leads", true, 10, 4, some(t))
		if r.s.Writes() != writes {
			t.Errorf("a best of %d bytes is written", n)
		}
		mount := mountOf(2, 1, 1)
		if n == 0 {
			r.wantTend("nothing is under way")
			r.wantHeard("MsgRequest", 121, request(mount), r.others(propose(10, 5, valueOf(t, after(1, mount))))...)
			continue
		}
		r.wantTend("it is under way", r.others(propose(10, 5, mixed(n, 1)))...)
		r.wantUnheard("MsgRequest", request(mount))
		r.wantUnchanged("Pass", ok, func() ([]api.Message, api.Errno) { return r.p.Pass(500) })
	}
}

// P12.4: a vote that comes again, behind the one that made most, and the other peer's: nothing. One that wasn't a vote may come again as one.
func TestPromiseTwice(t *testing.T) {
	state, _ := behind(t, some(t), passOf(9))
	r := eachRole(t)["stands"]
	r.wantUnchanged("a vote that isn't one", ok, func() ([]api.Message, api.Errno) { return r.hear(120, vote(2, 6, "", none)) })
	r.wantTend("nobody has voted", r.others(prepare(10, 5))...)
	r.wantHeard("a vote", 120, vote(2, 6, state, none))
	r.wantTold("it leads", true, 10, 5, state)
	for range 2 {
		r.wantUnheard("the vote again", vote(2, 6, state, api.Accepted{Ballot: 8, Value: "v"}))
		r.wantUnheard("the other's vote", vote(0, 7, state, api.Accepted{Ballot: 8, Value: "v"}))
	}
}

// P12.4: the moment from which a leader counts is the one of the message that made most.
func TestPromiseMark(t *testing.T) {
	for _, now := range []int{0, 50, 100, 130, maxTime - 9} {
		r := eachRole(t)["stands"]
		r.wantHeard("a vote", now, vote(0, 5, "", none))
		r.wantUnchanged("Pass at the mark", ok, func() ([]api.Message, api.Errno) { return r.p.Pass(now) })
		out, err := r.p.Pass(now + 9)
		wantOut(t, "Pass", out, err, r.out(r.others(propose(10, 5, valueOf(t, passOf(9))))...)...)
	}
}
