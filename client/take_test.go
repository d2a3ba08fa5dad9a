package client_test

import (
	"math"
	"testing"

	"lagoon/api"
)

// open is a client with a request open: the third, of server 1 in boot 4, to peer 2 of three, first sent at 100 and last at 106.
func open(t *testing.T) *rig {
	t.Helper()
	r := made(t, 1, 4, 3)
	for seq := 1; seq <= 2; seq++ {
		r.wantAsked(10*seq, mount(), seq-1, seq)
		r.wantTaken("Take", r.answer(1, seq, someView()), 10*seq)
	}
	r.wantAsked(100, renew(1), 1, 3)
	r.wantTended("Tend", 106, r.request(2, renew(1), 3))
	return r
}

// wantStillOpen wants the request of open to be so, and its answer to be taken.
func (r *rig) wantStillOpen(what string) {
	r.t.Helper()
	r.wantOpen(what, renew(1), 3, 2, 100, 106)
	r.wantTaken(what, r.answer(0, 3, someView()), 100)
}

// P13.4: Take of an answer: its View, the moment of the first sending, true; it is open no more, the peer is the one that it came from, and the next request goes there.
func TestTake(t *testing.T) {
	for from := range 3 {
		for _, v := range []api.View{{}, {Code: 25}, someView()} {
			r := open(t)
			m := r.answer(from, 3, v)
			r.wantTaken("Take", m, 100)
			r.wantUntaken("the same answer again", m)
			r.wantIdle("behind it", from, 4)
			r.wantUntended("behind it", 500, ok)
			r.wantAsked(200, lock(1, 2, 1), from, 4)
			r.wantUntaken("an earlier answer", m)
		}
	}
}

// P13.4: what else stands in an answer than what it is known by doesn't count: all but Kind, From, To and the Command's Server, Boot and Seq.
func TestTakeOtherFields(t *testing.T) {
	for _, x := range []func(*api.Message){
		func(m *api.Message) { m.Command = numbered(lock(9, 77, 5), 1, 4, 3) },
		func(m *api.Message) { m.Command.Kind, m.Command.D = kPass, 12 },
		func(m *api.Message) { m.Command.Members = []int{9, -1, 0, 4} },
		func(m *api.Message) { m.Command.Gen, m.Command.Other = -5, math.MaxInt },
		func(m *api.Message) { m.Ballot, m.Slot, m.State = 9, -1, "state" },
		func(m *api.Message) { m.Accepted = api.Accepted{Ballot: 3, Value: "v"} },
		func(m *api.Message) { m.Ballot, m.Slot = math.MinInt, math.MaxInt },
		func(m *api.Message) { m.View = api.View{Code: -1, Gen: math.MinInt, Holds: make([]api.Hold, 99)} },
	} {
		r := open(t)
		m := r.answer(2, 3, someView())
		x(&m)
		r.wantTaken("other fields", m, 100)
	}
}

// P13.4: a message of every other kind is none of the client's.
func TestTakeKinds(t *testing.T) {
	r := open(t)
	for _, kind := range []api.MsgKind{math.MinInt, -1, 0, 1, 2, 3, 4, 5, 6, 7, 8, 10, 11, 1<<32 + 9, math.MaxInt} {
		m := r.answer(0, 3, someView())
		m.Kind = kind
		r.wantUntaken("another kind", m)
	}
	r.wantStillOpen("other kinds")
}

// P13.4: a message to somebody else, another server too, is not taken.
func TestTakeTo(t *testing.T) {
	r := open(t)
	for _, to := range []int{math.MinInt, -9, -1, 0, 1, 2, 7, 8, 10, 11, 12, 1<<32 + 9, math.MaxInt} {
		m := r.answer(0, 3, someView())
		m.To = to
		r.wantUntaken("to somebody else", m)
	}
	r.wantStillOpen("to somebody else")
	for server := range 3 {
		s := made(t, server, 1, 1)
		s.wantAsked(5, mount(), 0, 1)
		for to := range 16 {
			m := s.answer(0, 1, someView())
			m.To = to
			if to != 8+server {
				s.wantUntaken("to somebody else", m)
			}
		}
		s.wantTaken("to the server", s.answer(0, 1, someView()), 5)
	}
}

// P13.4: an answer comes from a peer: from 0 to the last one, whichever was asked.
func TestTakeFrom(t *testing.T) {
	for peers := 1; peers <= 3; peers++ {
		for from := range peers {
			r := made(t, 0, 2, peers)
			r.wantAsked(5, mount(), 0, 1)
			for _, none := range []int{math.MinInt, -2, -1, peers, peers + 1, 4, 7, 8, 9, 10, 1 << 32, math.MaxInt} {
				r.wantUntaken("from nobody", r.answer(none, 1, someView()))
			}
			r.wantTaken("from a peer", r.answer(from, 1, someView()), 5)
		}
	}
}

// P13.4: without an open request nothing is taken: of a new client, and behind an answer.
func TestTakeIdle(t *testing.T) {
	fresh, answered := made(t, 1, 4, 3), open(t)
	answered.wantTaken("Take", answered.answer(0, 3, someView()), 100)
	for _, r := range []*rig{fresh, answered} {
		for from := range 3 {
			for seq := range 6 {
				r.wantUntaken("none is open", r.answer(from, seq, someView()))
			}
		}
		r.wantUntaken("no numbers", api.Message{Kind: mAnswer, To: 9})
	}
}

// P13.4: an answer whose Command has another Server, Boot or Seq is not taken: an earlier request's, a later one's, another life's.
func TestTakeNumbers(t *testing.T) {
	r := open(t)
	for _, server := range []int{math.MinInt, -1, 0, 2, 3, 9, 1<<32 + 1, math.MaxInt} {
		r.wantUntaken("another Server", api.Message{Kind: mAnswer, To: 9, Command: numbered(renew(1), server, 4, 3)})
	}
	for _, boot := range []int{math.MinInt, -4, 0, 1, 3, 5, maxCount, 1<<32 + 4, math.MaxInt} {
		r.wantUntaken("another Boot", api.Message{Kind: mAnswer, To: 9, Command: numbered(renew(1), 1, boot, 3)})
	}
	for _, seq := range []int{math.MinInt, -3, 0, 1, 2, 4, maxCount, 1<<32 + 3, math.MaxInt} {
		r.wantUntaken("another Seq", api.Message{Kind: mAnswer, To: 9, Command: numbered(renew(1), 1, 4, seq)})
	}
	r.wantUntaken("no numbers", api.Message{Kind: mAnswer, To: 9})
	r.wantStillOpen("other numbers")
}

// P13.4: the moment that is answered is the one of the first sending, however often and whenever it was sent again.
func TestTakeMoment(t *testing.T) {
	for _, first := range []int{0, 1, 50, maxTime - 600, maxTime} {
		for times := range 20 {
			r := made(t, 0, 1, 3)
			r.wantAsked(first, mount(), 0, 1)
			peer := 0
			for i := 1; i <= times && first+20*i <= maxTime; i++ {
				peer = i % 3
				r.wantTended("Tend", first+20*i, r.request(peer, mount(), 1))
			}
			r.wantOpen("sent again", mount(), 1, peer, first, first+20*min(times, (maxTime-first)/20))
			r.wantTaken("Take", r.answer(1, 1, someView()), first)
		}
	}
}

// P13.5: each answer is taken once, the answers to requests of before are never taken, and no number is used twice.
func TestTakeOnce(t *testing.T) {
	r := made(t, 2, 1, 3)
	var all []api.Message
	for seq := 1; seq <= 8; seq++ {
		now := 100 * seq
		r.wantAsked(now, renew(seq), r.Peer(), seq)
		for _, m := range all {
			r.wantUntaken("an answer of before", m)
		}
		m := r.answer(seq%3, seq, someView())
		r.wantTaken("its answer", m, now)
		all = append(all, m)
		for _, m := range all {
			r.wantUntaken("an answer of before, and none is open", m)
		}
	}
}
