package client_test

import (
	"testing"

	"lagoon/api"
)

// P13.3: Tend with no request open: nothing, of a new client and behind an answer; ErrRange all the same, where now is no time.
func TestTendIdle(t *testing.T) {
	for peers := 1; peers <= 3; peers++ {
		r := made(t, 1, 1, peers)
		for seq := 1; seq <= 3; seq++ {
			for _, now := range []int{0, 5, 6, 7, 1000, maxTime} {
				r.wantUntended("none is open", now, ok)
			}
			for _, now := range badTimes {
				r.wantUntended("none is open, and no time", now, errRange)
			}
			r.wantAsked(10, mount(), 0, seq)
			r.wantTaken("Take", r.answer(0, seq, someView()), 10)
		}
	}
}

// P13.3: Tend where now is no time: ErrRange, and nothing is sent.
func TestTendTime(t *testing.T) {
	r := made(t, 0, 1, 3)
	r.wantAsked(0, mount(), 0, 1)
	for _, now := range badTimes {
		r.wantUntended("no time", now, errRange)
	}
	r.wantTended("a time", maxTime, r.request(1, mount(), 1))
}

// P13.3: with now below the last sending and 6 nothing goes out; at it and above it the request does, to the next peer, last sent now.
func TestTend(t *testing.T) {
	for peers := 1; peers <= 3; peers++ {
		for _, asked := range []int{0, 1, 100, 1 << 32} {
			for _, late := range []int{0, 1, 5, 6, 1 << 40} {
				r := made(t, 2, 5, peers)
				x := lock(1, 4, 2)
				r.wantAsked(asked, x, 0, 1)
				last := asked
				for i := 1; i <= 7; i++ {
					for _, now := range []int{0, last - 1, last, last + 1, last + retry - 2, last + retry - 1} {
						if now >= 0 {
							r.wantUntended("too early", now, ok)
						}
					}
					last += retry + late
					r.wantTended("in time", last, r.request(i%peers, x, 1))
					r.wantOpen("sent again", x, 1, i%peers, asked, last)
					r.wantUntended("at once again", last, ok)
				}
			}
		}
	}
}

// P13.3: it is the last sending that counts, not the first one.
func TestTendCountsFromLast(t *testing.T) {
	r := made(t, 0, 1, 3)
	r.wantAsked(10, mount(), 0, 1)
	r.wantTended("Tend(30)", 30, r.request(1, mount(), 1))
	r.wantUntended("Tend(35)", 35, ok)
	r.wantTended("Tend(36)", 36, r.request(2, mount(), 1))
	r.wantUntended("Tend(41)", 41, ok)
	r.wantTended("Tend(42)", 42, r.request(0, mount(), 1))
	r.wantTaken("Take", r.answer(0, 1, someView()), 10)
	r.wantAsked(43, renew(1), 0, 2)
	r.wantUntended("Tend(48)", 48, ok)
	r.wantTended("Tend(49)", 49, r.request(1, renew(1), 2))
}

// P13.3: the next peer is the first one behind the last, from whichever the requests begin.
func TestTendPeers(t *testing.T) {
	for peers := 1; peers <= 3; peers++ {
		for from := range peers {
			r := made(t, 1, 1, peers)
			r.wantAsked(0, mount(), 0, 1)
			r.wantTaken("Take", r.answer(from, 1, someView()), 0)
			r.wantAsked(10, renew(1), from, 2)
			for i := 1; i <= 7; i++ {
				r.wantTended("Tend", 10+retry*i, r.request((from+i)%peers, renew(1), 2))
			}
			r.wantTaken("Take", r.answer((from+1)%peers, 2, someView()), 10)
			r.wantAsked(60, renew(1), (from+1)%peers, 3)
		}
	}
}

// P13.3: near 2^52: the last sending that can be followed by another one, and the first that can't.
func TestTendNearMaxTime(t *testing.T) {
	for _, asked := range []int{maxTime - 13, maxTime - 12, maxTime - 11, maxTime - 7, maxTime - 6, maxTime - 5, maxTime - 1, maxTime} {
		r := made(t, 0, 1, 2)
		r.wantAsked(asked, mount(), 0, 1)
		peer, last := 0, asked
		for last+retry <= maxTime {
			r.wantUntended("too early", last+retry-1, ok)
			last += retry
			peer = 1 - peer
			r.wantTended("in time", last, r.request(peer, mount(), 1))
			r.wantOpen("in time", mount(), 1, peer, asked, last)
		}
		for _, now := range []int{0, last, maxTime - 1, maxTime} {
			r.wantUntended("no time is left", now, ok)
		}
		for _, now := range []int{last + retry, maxTime + 1, maxTime + retry} {
			r.wantUntended("no time", now, errRange)
		}
		r.wantTaken("Take", r.answer(peer, 1, someView()), asked)
	}
}

// P13.3: what is sent again is the request as it was asked for, of every kind.
func TestTendKinds(t *testing.T) {
	r := made(t, 1, 3, 3)
	for i, x := range good() {
		seq := i + 1
		r.wantAsked(100, x, r.Peer(), seq)
		for k := 1; k <= 4; k++ {
			r.wantTended("Tend", 100+retry*k, r.request((r.Peer()+1)%3, x, seq))
		}
		r.wantTaken("Take", r.answer(seq%3, seq, api.View{}), 100)
	}
}
