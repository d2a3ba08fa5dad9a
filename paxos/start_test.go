package paxos_test

import (
	"math"
	"testing"

	"lagoon/api"
	"lagoon/paxos"
	"lagoon/store"
)

// wantNone wants Start to answer an error, and no peer beside it (R3).
func wantNone(t *testing.T, what string, id, peers, stores int, s *store.Store, now int, want api.Errno) {
	t.Helper()
	if p, err := paxos.Start(id, peers, stores, s, now); p != nil || err != want {
		t.Errorf("Start(%d, %d, %d, .., %d) of %s: %v, %d; want nil, %d", id, peers, stores, now, what, p, err, want)
	}
}

// The chapter's examples.
func TestExamples(t *testing.T) {
	var rigs [3]*rig
	for id := range rigs {
		rigs[id] = &rig{t: t, s: holding(t), id: id, n: 3}
		p, err := paxos.Start(id, 3, 1, rigs[id].s, 0)
		if err != ok {
			t.Fatalf("Start: %d", err)
		}
		rigs[id].p = p
	}
	start := begin(t, 1)
	out, err := rigs[1].p.Stand(0)
	wantOut(t, "Stand of 1", out, err, api.Message{Kind: 1, From: 1, To: 0, Ballot: 1, Slot: 1}, api.Message{Kind: 1, From: 1, To: 2, Ballot: 1, Slot: 1})
	promise, err := rigs[0].p.Handle(0, out[0])
	wantOut(t, "MsgPrepare to 0", promise, err, api.Message{Kind: 2, From: 0, To: 1, Ballot: 1, Slot: 1})
	out, err = rigs[1].p.Handle(0, promise[0])
	wantOut(t, "MsgPromise to 1", out, err)
	wantTold(t, "1 leads", rigs[1].p, told{true, 1, 0, start})
	mount := mountOf(0, 1, 1)
	out, err = rigs[1].p.Handle(5, api.Message{Kind: 8, From: 8, To: 1, Command: mount})
	v := api.Accepted{Ballot: 1, Value: valueOf(t, after(5, mount))}
	wantOut(t, "MsgRequest at 5", out, err, api.Message{Kind: 3, From: 1, To: 0, Ballot: 1, Slot: 1, Accepted: v}, api.Message{Kind: 3, From: 1, To: 2, Ballot: 1, Slot: 1, Accepted: v})
	accepted, err := rigs[0].p.Handle(5, out[0])
	wantOut(t, "MsgPropose to 0", accepted, err, api.Message{Kind: 4, From: 0, To: 1, Ballot: 1, Slot: 1})
	out, err = rigs[1].p.Handle(6, accepted[0])
	state, view := behind(t, start, after(5, mount))
	learn := api.Message{Kind: 5, From: 1, To: 0, Slot: 1, State: state}
	other := learn
	other.To = 2
	wantOut(t, "MsgAccepted of 0", out, err, learn, other, api.Message{Kind: 9, From: 1, To: 8, Command: after(5, mount), View: view})
	wantTold(t, "1 has it", rigs[1].p, told{true, 1, 1, state})
	out, err = rigs[1].p.Handle(7, api.Message{Kind: 8, From: 8, To: 1, Command: mount})
	wantOut(t, "the same request again", out, err, api.Message{Kind: 9, From: 1, To: 8, Command: mount, View: view})
	out, err = rigs[0].p.Stand(8)
	wantOut(t, "Stand of 0", out, err, api.Message{Kind: 1, From: 0, To: 1, Ballot: 3, Slot: 1}, api.Message{Kind: 1, From: 0, To: 2, Ballot: 3, Slot: 1})
	out, err = rigs[1].p.Handle(8, out[0])
	wantOut(t, "MsgPrepare to 1", out, err, api.Message{Kind: 2, From: 1, To: 0, Ballot: 3, Slot: 2, State: state})
	wantTold(t, "1 follows", rigs[1].p, told{false, 3, 1, state})
}

// P12.1: what the numbers of a Start may be.
func TestStartNumbers(t *testing.T) {
	far := []int{math.MinInt, -1 << 32, -2, -1, 4, 5, 1 << 32, 1<<32 + 1, math.MaxInt}
	for _, n := range append(far, 0, 1, 2, 3) {
		for _, id := range append(far, 0, 1, 2, 3, n-1, n) {
			for _, stores := range append(far, 0, 1, 2, 3) {
				for _, now := range append(goodTimes[:2:2], maxTime, -1, maxTime+1) {
					good := n >= 1 && n <= 3 && id >= 0 && id < n && stores >= 1 && stores <= 3 && now >= 0 && now <= maxTime
					if !good {
						wantNone(t, "nil", id, n, stores, nil, now, 2)
						continue
					}
					s := holding(t)
					p, err := paxos.Start(id, n, stores, s, now)
					if p == nil || err != ok {
						t.Fatalf("Start(%d, %d, %d, .., %d): %v, %d", id, n, stores, now, p, err)
					}
					wantTold(t, "a new one", p, told{false, 0, 0, begin(t, stores)})
					out, err := p.Tend(now)
					wantOut(t, "Tend of a new one", out, err)
					if s.Writes() != 0 {
						t.Error("Start writes more than the journal's first head")
					}
				}
			}
		}
	}
	for _, now := range badTimes {
		wantNone(t, "a good store", 0, 1, 1, holding(t), now, errRange)
	}
}

// P12.1: a number that may not be is told ahead of all that is wrong with the store (R2), and nothing is written (R4).
func TestStartRange(t *testing.T) {
	bad := holding(t, promiseOf(0))
	small := from(t, blank(need-1))
	fresh := from(t, blank(need))
	for _, s := range []*store.Store{nil, {}, bad, small, fresh} {
		wantNone(t, "no peers", 0, 0, 1, s, 0, 2)
		wantNone(t, "too many peers", 0, 4, 1, s, 0, 2)
		wantNone(t, "an id above", 2, 2, 1, s, 0, 2)
		wantNone(t, "an id below", -1, 2, 1, s, 0, 2)
		wantNone(t, "no storage nodes", 0, 1, 0, s, 0, 2)
		wantNone(t, "too many storage nodes", 0, 1, 4, s, 0, 2)
		wantNone(t, "a moment below", 0, 1, 1, s, -1, 2)
		wantNone(t, "a moment above", 0, 1, 1, s, maxTime+1, 2)
	}
	if fresh.Writes() != 0 {
		t.Error("a Start that may not be writes")
	}
}

// P12.1: what the acceptor answers to a store, and what isn't a state.
func TestStartStore(t *testing.T) {
	wantNone(t, "nil", 0, 1, 1, nil, 0, errNil)
	wantNone(t, "a store of none", 0, 1, 1, &store.Store{}, 0, errSpace)
	wantNone(t, "a store that is too small", 0, 1, 1, from(t, blank(need-1)), 0, errSpace)
	off := holding(t, learnOf(1, "none"))
	off.Fail()
	wantNone(t, "a store without power", 0, 1, 1, off, 0, errPower)
	armed := from(t, blank(need))
	armed.Arm(0)
	wantNone(t, "a store that fails", 0, 1, 1, armed, 0, errPower)
	armed.Revive(1, false)
	if p, err := paxos.Start(0, 1, 1, armed, 0); p == nil || err != ok {
		t.Errorf("Start on a store that was revived: %v, %d", p, err)
	}
	for _, records := range [][]string{{promiseOf(0)}, {promiseOf(2), promiseOf(1)}, {acceptOf(1, "")}, {"\x09\x01"}} {
		wantNone(t, "records that may not be", 0, 1, 1, holding(t, records...), 0, errRecord)
	}
}

// P12.1: a state of the journal that is none of the service's.
func TestStartNoState(t *testing.T) {
	good := begin(t, 3)
	amiss := stateOf(t, good)
	amiss.Time = 5
	for _, s := range []string{"", "s", good[1:], good[:len(good)-1], good + "\x00", "\x00" + good[1:], "\x04" + good[1:], mixed(1100, 3)} {
		for _, records := range [][]string{{learnOf(1, s)}, {learnOf(1, good), learnOf(7, s)}, recordsOf(4, 3, s, api.Accepted{Ballot: 2, Value: "v"})} {
			store := holding(t, records...)
			wantNone(t, "a state that is none", 1, 3, 3, store, 0, 14)
			if store.Writes() != 0 {
				t.Error("a Start that may not be writes")
			}
		}
	}
	if p, err := paxos.Start(1, 3, 3, holding(t, learnOf(1, "none"), learnOf(2, textOf(t, amiss))), 0); p == nil || err != ok {
		t.Errorf("Start over a state that may be: %v, %d", p, err)
	}
}

// P12.1: over a journal that has slots done, a promise, and something accepted; the peer follows.
func TestStartOver(t *testing.T) {
	state := some(t)
	for _, x := range []struct {
		promised, done int
		pending        api.Accepted
	}{
		{0, 0, none}, {1, 0, none}, {7, 0, none}, {maxCount, 0, none}, {0, 1, none}, {0, maxCount, none}, {5, 4, none},
		{5, 0, api.Accepted{Ballot: 5, Value: "v"}}, {9, 4, api.Accepted{Ballot: 5, Value: valueOf(t, passOf(4))}}, {maxCount, maxCount, none},
	} {
		for id := range 3 {
			r := started(t, id, 3, recordsOf(x.promised, x.done, state, x.pending)...)
			want := state
			if x.done == 0 {
				want = begin(t, 3)
			}
			r.wantTold("over a journal", false, x.promised, x.done, want)
			r.wantTend("over a journal")
			for kind := range mAnswer {
				if kind != mPrepare && kind != mPropose && kind != mLearn && kind != 0 && kind != 6 && kind != mRequest {
					r.wantUnheard("a message to one that follows", api.Message{Kind: kind, From: (id + 1) % 3, Ballot: x.promised, Slot: x.done + 1, State: state})
				}
			}
			r.wantUnheard("a request to one that follows", request(mountOf(2, 1, 1)))
		}
	}
}

// P12.1: how many storage nodes there are counts for the state at the start alone, which isn't kept; what is learned is kept as it is.
func TestStartOtherStores(t *testing.T) {
	s := holding(t)
	for stores := 1; stores <= 3; stores++ {
		p, err := paxos.Start(0, 2, stores, s, 0)
		if err != ok {
			t.Fatalf("Start: %d", err)
		}
		wantTold(t, "a new one", p, told{false, 0, 0, begin(t, stores)})
		if stores == 3 {
			if _, err := p.Handle(0, api.Message{Kind: mLearn, From: 1, Slot: 9, State: begin(t, 2)}); err != ok {
				t.Errorf("MsgLearn: %d", err)
			}
		}
	}
	for stores := 1; stores <= 3; stores++ {
		p, _ := paxos.Start(1, 2, stores, s, 0)
		wantTold(t, "begun again", p, told{false, 0, 9, begin(t, 2)})
	}
}

// nil *Peer: ErrNil ahead of all else; zeros.
func TestNil(t *testing.T) {
	var p *paxos.Peer
	for _, now := range append(badTimes, goodTimes...) {
		out, err := p.Stand(now)
		wantErr(t, "Stand of nil", out, err, 1)
		out, err = p.Pass(now)
		wantErr(t, "Pass of nil", out, err, 1)
		out, err = p.Tend(now)
		wantErr(t, "Tend of nil", out, err, 1)
		for kind := range mAnswer + 2 {
			out, err = p.Handle(now, api.Message{Kind: kind, From: 1, State: begin(t, 1), Command: mountOf(0, 1, 1)})
			wantErr(t, "Handle of nil", out, err, 1)
		}
	}
	if p.Leads() || p.Ballot() != 0 || p.Done() != 0 || !equalStates(p.State(), api.State{}) {
		t.Errorf("nil tells %v, %d, %d, %+v", p.Leads(), p.Ballot(), p.Done(), p.State())
	}
}

// R1: a peer that Start didn't make has zeros, and nothing comes of it.
func TestZero(t *testing.T) {
	var p paxos.Peer
	for range 2 {
		if out, err := p.Stand(5); err == ok || len(out) > 0 {
			t.Errorf("Stand without a store: %s, %d", show(out), err)
		}
		for _, call := range []func(int) ([]api.Message, api.Errno){p.Pass, p.Tend} {
			out, err := call(5)
			wantOut(t, "Pass or Tend without a store", out, err)
		}
		for kind := range mAnswer + 2 {
			for from := -1; from < 12; from++ {
				for to := -1; to < 4; to++ {
					out, _ := p.Handle(5, api.Message{Kind: kind, From: from, To: to, Ballot: 1, Slot: 1, State: begin(t, 1), Accepted: api.Accepted{Ballot: 1, Value: "v"}, Command: mountOf(0, 1, 1)})
					if len(out) > 0 {
						t.Errorf("Handle without a store: %s", show(out))
					}
				}
			}
		}
	}
	if p.Leads() || p.Ballot() != 0 || p.Done() != 0 || !equalStates(p.State(), api.State{}) {
		t.Errorf("a zero peer tells %v, %d, %d, %+v", p.Leads(), p.Ballot(), p.Done(), p.State())
	}
}

// Each call with a moment that is no time answers ErrRange, ahead of every other error, and changes nothing.
func TestBadTimes(t *testing.T) {
	for _, records := range [][]string{nil, {promiseOf(maxCount)}} {
		for _, power := range []bool{true, false} {
			r := started(t, 1, 3, records...)
			if records == nil {
				r.lead(100)
			}
			if !power {
				r.s.Fail()
			}
			for _, now := range badTimes {
				r.wantUnchanged("Stand", 2, func() ([]api.Message, api.Errno) { return r.p.Stand(now) })
				r.wantUnchanged("Pass", 2, func() ([]api.Message, api.Errno) { return r.p.Pass(now) })
				r.wantUnchanged("Tend", 2, func() ([]api.Message, api.Errno) { return r.p.Tend(now) })
				for kind := range mAnswer + 2 {
					for _, to := range []int{1, 2} {
						m := api.Message{Kind: kind, From: 0, To: to, Ballot: r.p.Ballot(), Slot: 1, State: some(t), Accepted: api.Accepted{Ballot: 1, Value: "v"}}
						r.wantUnchanged("Handle", 2, func() ([]api.Message, api.Errno) { return r.p.Handle(now, m) })
					}
				}
				m := request(mountOf(0, 1, 1))
				r.wantUnchanged("Handle of a request", 2, func() ([]api.Message, api.Errno) { return r.hear(now, m) })
			}
		}
	}
	for _, now := range goodTimes {
		r := started(t, 0, 3)
		out, err := r.p.Stand(now)
		wantOut(t, "Stand", out, err, r.out(r.others(api.Message{Kind: mPrepare, Ballot: 3, Slot: 1})...)...)
		out, err = r.p.Tend(now)
		wantOut(t, "Tend", out, err, r.out(r.others(api.Message{Kind: mPrepare, Ballot: 3, Slot: 1})...)...)
		out, err = r.p.Pass(now)
		wantOut(t, "Pass", out, err)
		r.wantHeard("MsgPrepare", now, api.Message{Kind: mPrepare, From: 1, Ballot: 4, Slot: 1}, api.Message{Kind: mPromise, To: 1, Ballot: 4, Slot: 1})
	}
}
