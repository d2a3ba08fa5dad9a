package client_test

import (
	"math"
	"testing"

	"lagoon/api"
	"lagoon/client"
)

// The chapter's examples.
func TestExamples(t *testing.T) {
	c, err := client.New(1, 4, 3)
	if c == nil || err != ok {
		t.Fatalf("New(1, 4, 3): %v, %d", c, err)
	}
	r := &rig{c, t, 1, 4, 3}
	mounting := api.Message{Kind: mRequest, From: 9, To: 0, Command: api.Command{Kind: kMount, Server: 1, Boot: 4, Seq: 1}}
	out, err := c.Ask(10, api.Command{Kind: kMount})
	r.wantOut("Ask(10, CmdMount)", out, err, mounting)
	r.wantUnasked("Ask(11, ..)", 11, mount(), errBusy)
	r.wantUntended("Tend(15)", 15, ok)
	mounting.To = 1
	r.wantTended("Tend(16)", 16, mounting)
	if c.Peer() != 1 {
		t.Errorf("Peer: %d", c.Peer())
	}
	answer := api.Message{Kind: mAnswer, From: 1, To: 9, Command: api.Command{Server: 1, Boot: 4, Seq: 1}, View: someView()}
	r.wantTaken("Take", answer, 10)
	r.wantUntaken("again", answer)
	out, err = c.Ask(20, api.Command{Kind: kRenew, Gen: 1})
	r.wantOut("Ask(20, CmdRenew)", out, err, api.Message{Kind: mRequest, From: 9, To: 1, Command: api.Command{Kind: kRenew, Server: 1, Boot: 4, Seq: 2, Gen: 1}})
}

// The limits, the kinds and the errors' numbers, as the document tells them.
func TestLimits(t *testing.T) {
	if api.MaxServers != 3 || api.MaxPeers != 3 || api.MaxCount != maxCount || api.MaxTime != maxTime || api.RetryEvery != retry {
		t.Errorf("MaxServers %d, MaxPeers %d, MaxCount %d, MaxTime %d, RetryEvery %d", api.MaxServers, api.MaxPeers, api.MaxCount, api.MaxTime, api.RetryEvery)
	}
	if api.OK != ok || api.ErrNil != errNil || api.ErrRange != errRange || api.ErrKind != errKind || api.ErrBusy != errBusy {
		t.Errorf("OK %d, ErrNil %d, ErrRange %d, ErrKind %d, ErrBusy %d", api.OK, api.ErrNil, api.ErrRange, api.ErrKind, api.ErrBusy)
	}
	if api.MsgRequest != mRequest || api.MsgAnswer != mAnswer || api.CmdMount != kMount || api.CmdPass != kPass {
		t.Errorf("MsgRequest %d, MsgAnswer %d, CmdMount %d, CmdPass %d", api.MsgRequest, api.MsgAnswer, api.CmdMount, api.CmdPass)
	}
}

// P13.1: New of all servers, boots and numbers of peers at the edges, and of such as are none: one that is none is enough for ErrRange.
func TestNew(t *testing.T) {
	servers := map[int]bool{math.MinInt: false, -8: false, -1: false, 0: true, 1: true, 2: true, 3: false, 8: false, 1 << 32: false, math.MaxInt: false}
	boots := map[int]bool{math.MinInt: false, -1: false, 0: false, 1: true, 2: true, 1 << 32: true, maxCount - 1: true, maxCount: true, maxCount + 1: false, maxTime: false, math.MaxInt: false}
	groups := map[int]bool{math.MinInt: false, -1: false, 0: false, 1: true, 2: true, 3: true, 4: false, 1<<32 + 1: false, math.MaxInt: false}
	for server, isServer := range servers {
		for boot, isBoot := range boots {
			for peers, isPeers := range groups {
				if isServer && isBoot && isPeers {
					made(t, server, boot, peers).wantIdle("a new client", 0, 1)
					continue
				}
				if c, err := client.New(server, boot, peers); c != nil || err != errRange {
					t.Errorf("New(%d, %d, %d): %v, %d; want nil, %d", server, boot, peers, c, err, errRange)
				}
			}
		}
	}
}

// P13.1, P13.2: a new client's first request bears the server and the boot that it was made of, to each of its peers.
func TestNewAsks(t *testing.T) {
	for server := range 3 {
		for _, boot := range []int{1, 2, 1 << 32, maxCount - 1, maxCount} {
			for peers := 1; peers <= 3; peers++ {
				r := made(t, server, boot, peers)
				r.wantAsked(7, mount(), 0, 1)
				for to := 1; to < peers; to++ {
					r.wantTended("Tend", 7+retry*to, r.request(to, mount(), 1))
				}
				r.wantTended("Tend, the last peer behind", 7+retry*peers, r.request(0, mount(), 1))
				r.wantTaken("Take", r.answer(peers-1, 1, someView()), 7)
				r.wantAsked(100, renew(3), peers-1, 2)
			}
		}
	}
}

// wantDumb wants a client to answer the errors, and nothing beside them, and to tell nothing.
func wantDumb(t *testing.T, what string, c *client.Client, asked, tended func(now int) api.Errno) {
	t.Helper()
	for _, now := range append([]int{0, 1, 6, maxTime}, badTimes...) {
		for _, x := range []api.Command{{}, mount(), renew(1), numbered(mount(), 0, 1, 1), {Kind: kPass, D: 1}, {Kind: kMount, D: 1}, {Kind: 10}, members(1, 0, 1, 2)} {
			if out, err := c.Ask(now, x); len(out) > 0 || err != asked(now) {
				t.Errorf("%s: Ask(%d, %+v): %+v, %d; want %d", what, now, x, out, err, asked(now))
			}
		}
		if out, err := c.Tend(now); len(out) > 0 || err != tended(now) {
			t.Errorf("%s: Tend(%d): %+v, %d; want %d", what, now, out, err, tended(now))
		}
	}
	for _, from := range []int{-1, 0, 1, 8} {
		for seq := range 3 {
			for boot := range 2 {
				m := api.Message{Kind: mAnswer, From: from, To: 8, Command: numbered(mount(), 0, boot, seq), View: someView()}
				if v, now, is := c.Take(m); is || now != 0 || !equalViews(v, api.View{}) {
					t.Errorf("%s: Take(%+v): %+v, %d, %v", what, m, v, now, is)
				}
			}
		}
	}
	if x, is := c.Open(); is || !equalCommands(x, api.Command{}) || c.Peer() != 0 {
		t.Errorf("%s: Open %+v, %v, Peer %d", what, x, is, c.Peer())
	}
}

// A nil *Client: ErrNil ahead of all other errors, and zero values.
func TestNilClient(t *testing.T) {
	isNil := func(int) api.Errno { return errNil }
	wantDumb(t, "a nil client", nil, isNil, isNil)
}

// R1: a client that New didn't make has no boot, so that it can ask for nothing; no call of it panics.
func TestZeroClient(t *testing.T) {
	tended := func(now int) api.Errno {
		if now < 0 || now > maxTime {
			return errRange
		}
		return ok
	}
	asked := func(now int) api.Errno {
		if tended(now) != ok {
			return errRange
		}
		return errKind
	}
	var c client.Client
	wantDumb(t, "the zero client", &c, asked, tended)
}

// P13.1: Open behind every call: the request as it is sent, as long as it is open.
func TestOpen(t *testing.T) {
	r := made(t, 2, 9, 3)
	for seq, x := range []api.Command{mount(), renew(1), lock(1, 18, 2), unlock(1, 0), help(0, 2), done(1, 0), members(1, 2, 0, 1), members(1, 1)} {
		seq++
		for range 2 {
			if c, is := r.Open(); is || !equalCommands(c, api.Command{}) {
				t.Errorf("Open ahead of request %d: %+v, %v", seq, c, is)
			}
		}
		out, err := r.Ask(100, x)
		for _, now := range []int{100, 106, 107, 111, 112, 50, 200} {
			if c, is := r.Open(); !is || !equalCommands(c, r.own(x, seq)) || err != ok || len(out) > 0 && !equalCommands(c, out[0].Command) {
				t.Errorf("Open of request %d at %d: %+v, %v; sent was %+v, %d", seq, now, c, is, out, err)
			}
			out, err = r.Tend(now)
		}
		r.wantUnasked("Ask while one is open", 200, mount(), errBusy)
		if c, is := r.Open(); !is || !equalCommands(c, r.own(x, seq)) {
			t.Errorf("Open of request %d, behind an Ask: %+v, %v", seq, c, is)
		}
		r.wantUntaken("another request's answer", r.answer(1, seq+1, someView()))
		r.wantTaken("the answer", r.answer(1, seq, someView()), 100)
	}
}

// P13.1, P13.4: Peer: the one that is asked: the next one at each sending again, the one that answered, and no other call changes it.
func TestPeer(t *testing.T) {
	for peers := 1; peers <= 3; peers++ {
		r := made(t, 0, 1, peers)
		peer := 0
		want := func(what string) {
			t.Helper()
			if r.Peer() != peer {
				t.Errorf("%s: Peer %d of %d; want %d", what, r.Peer(), peers, peer)
			}
		}
		want("a new client")
		for seq := 1; seq <= 9; seq++ {
			now := seq * 1000
			r.Ask(now, mount())
			want("Ask")
			for i := range seq % 5 {
				r.Tend(now + retry*i + retry - 1)
				want("Tend too early")
				r.Tend(now + retry*i + retry)
				peer = (peer + 1) % peers
				want("Tend")
			}
			r.Ask(now, mount())
			want("Ask while one is open")
			peer = seq * seq % peers
			r.Take(r.answer(peer, seq, api.View{}))
			want("Take")
			r.Take(r.answer(0, seq, api.View{}))
			want("Take twice")
			r.Tend(now + 900)
			want("Tend without a request")
		}
	}
}
