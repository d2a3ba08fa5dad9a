package paxos_test

import (
	"fmt"
	"math"
	"testing"

	"lagoon/api"
)

// proposal is a MsgPropose to a peer.
func proposal(from, ballot, slot int, value string) api.Message {
	m := propose(ballot, slot, value)
	m.From = from
	return m
}

// P12.4: MsgPropose with a ballot below the promised one, or below 1: MsgNack, whichever slot it is.
func TestProposeLow(t *testing.T) {
	for role, r := range eachRole(t) {
		sent, writes := r.tend(), r.s.Writes()
		for _, ballot := range []int{math.MinInt, -1, 0, 1, 7, 8, 9} {
			for _, slot := range []int{math.MinInt, 0, 1, 3, 4, 5, 6, 7, maxCount, math.MaxInt} {
				for _, value := range []string{"", "v", mixed(101, 1)} {
					r.wantHeard(role, 100, proposal(2, ballot, slot, value), api.Message{Kind: mNack, To: 2, Ballot: 10, Slot: 5})
				}
			}
		}
		r.wantTold(role, role == "leads", 10, 4, some(t))
		r.wantTend(role, sent...)
		if r.s.Writes() != writes {
			t.Errorf("%s: a low ballot writes", role)
		}
	}
	fresh := started(t, 0, 2)
	fresh.wantHeard("a new one", 100, proposal(1, 0, 1, "v"), api.Message{Kind: mNack, To: 1, Ballot: 0, Slot: 1})
	fresh.wantHeard("a new one", 100, proposal(1, 1, 1, "v"), api.Message{Kind: mAccepted, To: 1, Ballot: 1, Slot: 1})
}

// P12.4: MsgPropose of a slot that is done: MsgLearn, and nothing is promised; of one beyond the next one: MsgNack.
func TestProposeSlots(t *testing.T) {
	for role, r := range eachRole(t) {
		sent, writes := r.tend(), r.s.Writes()
		for _, ballot := range []int{10, 11, 12, maxCount, maxCount + 1, math.MaxInt} {
			for _, value := range []string{"", "v", mixed(101, 1)} {
				for _, slot := range []int{math.MinInt, -1, 0, 1, 2, 3, 4} {
					r.wantHeard(role, 100, proposal(0, ballot, slot, value), api.Message{Kind: mLearn, To: 0, Slot: 4, State: some(t)})
				}
				for _, slot := range append([]int{6, 7, 8, maxCount}, farOff()[4:]...) {
					r.wantHeard(role, 100, proposal(0, ballot, slot, value), api.Message{Kind: mNack, To: 0, Ballot: 10, Slot: 5})
				}
			}
		}
		r.wantTold(role, role == "leads", 10, 4, some(t))
		r.wantTend(role, sent...)
		if r.s.Writes() != writes {
			t.Errorf("%s: another slot writes", role)
		}
	}
	fresh := started(t, 0, 2)
	fresh.wantHeard("a new one", 100, proposal(1, 1, 0, "v"), api.Message{Kind: mLearn, To: 1, Slot: 0, State: begin(t, 3)})
	fresh.wantHeard("a new one", 100, proposal(1, 1, 2, "v"), api.Message{Kind: mNack, To: 1, Ballot: 0, Slot: 1})
}

// P12.4: MsgPropose of the next slot: it is accepted; a ballot above the own one makes the peer follow, the own one doesn't.
func TestPropose(t *testing.T) {
	for _, ballot := range []int{10, 11, 12, 1 << 32, maxCount} {
		for _, value := range []string{"v", "\x00", mixed(99, 1), mixed(100, 2), valueOf(t, passOf(5))} {
			for role, r := range eachRole(t) {
				sent := r.tend()
				if ballot > 10 {
					sent = nil
				}
				for range 2 {
					r.wantHeard(role, 100, proposal(2, ballot, 5, value), api.Message{Kind: mAccepted, To: 2, Ballot: ballot, Slot: 5})
				}
				r.wantTold(role, role == "leads" && ballot == 10, ballot, 4, some(t))
				r.wantTend(role, sent...)
				for range 2 {
					r.wantHeard(role, 100, api.Message{Kind: mPrepare, From: 0, Ballot: ballot, Slot: 5}, api.Message{Kind: mPromise, To: 0, Ballot: ballot, Slot: 5, Accepted: api.Accepted{Ballot: ballot, Value: value}})
					r.start(100)
				}
			}
		}
	}
}

// P12.4: MsgPropose in the place of another value: with a higher ballot it is accepted, with the same one it is answered by nothing, and the first value stays.
func TestProposeOther(t *testing.T) {
	r := pendingRig(t, 0)
	for i, value := range []string{"v", "w", "pending", mixed(100, 1)} {
		r.wantHeard("a higher ballot", 100, proposal(1, 9+i, 5, value), api.Message{Kind: mAccepted, To: 1, Ballot: 9 + i, Slot: 5})
		for _, other := range []string{"x", value + "x", value[:len(value)-1]} {
			if len(other) > 0 && len(other) <= 100 {
				r.wantUnheard("another value with the same ballot", proposal(1, 9+i, 5, other))
			}
		}
		r.wantHeard("the same again", 100, proposal(2, 9+i, 5, value), api.Message{Kind: mAccepted, To: 2, Ballot: 9 + i, Slot: 5})
		r.wantHeard("MsgPrepare", 100, api.Message{Kind: mPrepare, From: 1, Ballot: 9 + i, Slot: 5}, api.Message{Kind: mPromise, To: 1, Ballot: 9 + i, Slot: 5, Accepted: api.Accepted{Ballot: 9 + i, Value: value}})
	}
	r.wantTold("behind all these", false, 12, 4, some(t))
}

// P12.4: MsgPropose of a value that is none, and of a ballot above MaxCount: nothing; a ballot above the own one has made the peer follow by then, and isn't promised.
func TestProposeRange(t *testing.T) {
	for _, ballot := range []int{10, 11, maxCount, maxCount + 1, 1 << 62, math.MaxInt} {
		for _, value := range []string{"", mixed(101, 1), mixed(102, 1), mixed(1<<20, 1), "v"} {
			if ballot <= maxCount && value == "v" {
				continue
			}
			for role, r := range eachRole(t) {
				sent, writes := r.tend(), r.s.Writes()
				if ballot > 10 {
					sent = nil
				}
				r.wantHeard(role, 100, proposal(2, ballot, 5, value))
				r.wantTold(role, role == "leads" && ballot == 10, 10, 4, some(t))
				r.wantTend(role, sent...)
				if r.s.Writes() != writes {
					t.Errorf("%s: a proposal that may not be writes", role)
				}
			}
		}
	}
}

// P12.4: MsgPropose has its ballot twice: the message's own counts.
func TestProposeBallots(t *testing.T) {
	r := pendingRig(t, 0)
	m := proposal(1, 12, 5, "v")
	for _, ballot := range []int{-1, 0, 3, 99, math.MaxInt} {
		m.Accepted.Ballot = ballot
		r.wantHeard("another ballot beside the value", 100, m, api.Message{Kind: mAccepted, To: 1, Ballot: 12, Slot: 5})
	}
	r.wantTold("behind all these", false, 12, 4, some(t))
	m.Ballot, m.Accepted.Ballot = 8, 13
	r.wantHeard("a low ballot", 100, m, api.Message{Kind: mNack, To: 1, Ballot: 12, Slot: 5})
}

// leading is a peer of three that leads with the ballot 10, four slots done, and a command under way: how much time passes by it is 20.
func leading(t *testing.T, id int, c api.Command) *rig {
	t.Helper()
	r := started(t, id, 3, recordsOf(9, 4, some(t), none)...)
	if ballot := r.lead(100); ballot != ballotOf(9, id, 3) {
		t.Fatalf("it leads with %d", ballot)
	}
	r.wantHeard("MsgRequest", 120, request(c), r.others(propose(r.p.Ballot(), 5, valueOf(t, after(20, c))))...)
	return r
}

// accepted is a MsgAccepted to a peer.
func accepted(from, ballot, slot int) api.Message {
	return api.Message{Kind: mAccepted, From: from, Ballot: ballot, Slot: slot}
}

// P12.4: MsgAccepted that makes most: it is decided. MsgLearn goes to all others, in order, then MsgAnswer.
func TestAccepted(t *testing.T) {
	for id := range 3 {
		for other := range 3 {
			if other == id {
				continue
			}
			mount := mountOf(2, 3, 1)
			r := leading(t, id, mount)
			state, view := behind(t, some(t), after(20, mount))
			ballot := r.p.Ballot()
			r.wantHeard("MsgAccepted", 140, accepted(other, ballot, 5), append(r.others(learn(5, state)), answer(after(20, mount), view))...)
			r.wantTold("it is decided", true, ballot, 5, state)
			r.wantTend("it is decided")
			for from := range 3 {
				if from != id {
					r.wantUnheard("MsgAccepted again", accepted(from, ballot, 5))
					r.wantUnheard("MsgAccepted of the next slot, with nothing under way", accepted(from, ballot, 6))
				}
			}
			r.wantHeard("MsgRequest", 145, request(mountOf(1, 5, 1)), r.others(propose(ballot, 6, valueOf(t, after(5, mountOf(1, 5, 1)))))...)
			r.wantUnheard("MsgAccepted of the slot before", accepted(other, ballot, 5))
			r.start(150)
			r.wantTold("begun again", false, ballot, 5, state)
		}
	}
}

// P12.4: MsgAccepted of another ballot or slot, and to one that doesn't lead or has no value under way.
func TestAcceptedUnheard(t *testing.T) {
	r := leading(t, 1, mountOf(2, 3, 1))
	for _, x := range [][2]int{{9, 5}, {11, 5}, {7, 5}, {13, 5}, {0, 5}, {-1, 5}, {maxCount, 5}, {math.MaxInt, 5}, {10, 4}, {10, 6}, {10, 0}, {10, -1}, {10, maxCount}, {10, math.MinInt}, {9, 4}, {11, 6}} {
		r.wantUnheard("MsgAccepted of another", accepted(0, x[0], x[1]))
	}
	r.wantTend("nobody has accepted", r.others(propose(10, 5, valueOf(t, after(20, mountOf(2, 3, 1)))))...)
	for _, r := range eachRole(t) {
		for from := range 3 {
			if from != 1 {
				r.wantUnheard("MsgAccepted with nothing under way", accepted(from, 10, 5))
			}
		}
	}
	r.wantHeard("MsgPrepare", 130, api.Message{Kind: mPrepare, From: 2, Ballot: 11, Slot: 5}, api.Message{Kind: mPromise, To: 2, Ballot: 11, Slot: 5, Accepted: api.Accepted{Ballot: 10, Value: valueOf(t, after(20, mountOf(2, 3, 1)))}})
	r.wantUnheard("MsgAccepted to one that follows", accepted(0, 10, 5))
	r.stand(130)
	r.wantUnheard("MsgAccepted to one that stands", accepted(0, 10, 5))
	r.wantUnheard("MsgAccepted to one that stands", accepted(0, 13, 5))
}

// P12.4: with two peers both are most.
func TestAcceptedTwo(t *testing.T) {
	for id := range 2 {
		r := started(t, id, 2)
		ballot := r.lead(100)
		mount := mountOf(0, 1, 1)
		r.wantHeard("MsgRequest", 100, request(mount), r.others(propose(ballot, 1, valueOf(t, mount)))...)
		r.wantTold("one of two", true, ballot, 0, begin(t, 3))
		state, view := behind(t, begin(t, 3), mount)
		r.wantHeard("MsgAccepted", 100, accepted(1-id, ballot, 1), append(r.others(learn(1, state)), answer(mount, view))...)
		r.wantTold("two of two", true, ballot, 1, state)
	}
}

// P12.4: what is decided of values that a leader has taken over: MsgAnswer goes out for a command of another kind than CmdPass alone, and only if the state behind it knows its Boot and Seq as its Server's.
func TestDecided(t *testing.T) {
	state := some(t)
	late := stateOf(t, state)
	late.Time = maxTime - 5
	for _, x := range []struct {
		what, state string
		value       string
		command     api.Command
		answered    bool
	}{
		{"a new command", state, "", after(7, lockOf(0, 1, 4, 1, 9, 1)), true},
		{"a command that is refused", state, "", after(7, renewOf(0, 1, 4, 9)), true},
		{"a command by which its server dies", state, "", after(61, renewOf(0, 1, 4, 1)), true},
		{"a command of a new life", state, "", after(0, mountOf(1, 9, 1)), true},
		{"the last command again", state, "", after(7, lockOf(0, 1, 3, 1, 4, 2)), true},
		{"the last command's number, of another kind", state, "", after(0, renewOf(0, 1, 3, 1)), true},
		{"the chain's", state, "", chainOf(1, 4, 2, 1, 2, 1, 0), true},
		{"a late command", state, "", after(7, mountOf(0, 1, 1)), false},
		{"a command that is ahead", state, "", renewOf(0, 1, 5, 1), false},
		{"a command of an earlier life", state, "", mountOf(1, 3, 1), false},
		{"a second command of a new life", state, "", renewOf(1, 5, 2, 1), false},
		{"a command beyond MaxTime", textOf(t, late), "", after(6, renewOf(0, 1, 4, 1)), false},
		{"the last command beyond MaxTime", textOf(t, late), "", after(6, lockOf(0, 1, 3, 1, 4, 2)), true},
		{"a command at MaxTime", textOf(t, late), "", after(5, renewOf(0, 1, 4, 1)), true},
		{"a CmdPass", state, "", passOf(70), false},
		{"a CmdPass beyond MaxTime", textOf(t, late), "", passOf(6), false},
		{"no command's text", state, "v", api.Command{}, false},
		{"a command and a byte", state, valueOf(t, renewOf(0, 1, 4, 1)) + "\x00", api.Command{}, false},
		{"the longest text", state, mixed(100, 1), api.Command{}, false},
	} {
		value, want := x.value, x.state
		var view api.View
		if value == "" {
			value = valueOf(t, x.command)
			want, view = behind(t, x.state, x.command)
		}
		r := started(t, 1, 3, recordsOf(9, 4, x.state, none)...)
		r.stand(100)
		r.wantHeard(x.what, 120, vote(0, 5, "", api.Accepted{Ballot: 8, Value: value}), r.others(propose(10, 5, value))...)
		messages := r.others(learn(5, want))
		if x.answered {
			messages = append(messages, answer(x.command, view))
		}
		r.wantHeard(x.what, 130, accepted(2, 10, 5), messages...)
		r.wantTold(x.what, true, 10, 5, want)
		r.wantTend(x.what)
	}
}

// P12.4: a CmdPass to a state that knows nothing of server 0, whose Boot and Seq are 0 as those of the command: no answer.
func TestDecidedPassFresh(t *testing.T) {
	state, _ := behind(t, begin(t, 3), passOf(5))
	for n := 2; n <= 3; n++ {
		r := started(t, 0, n)
		ballot := r.lead(100)
		out, err := r.p.Pass(105)
		wantOut(t, "Pass", out, err, r.out(r.others(propose(ballot, 1, valueOf(t, passOf(5))))...)...)
		r.wantHeard("MsgAccepted", 105, accepted(1, ballot, 1), r.others(learn(1, state))...)
		r.wantTold("it passed", true, ballot, 1, state)
	}
	alone := started(t, 0, 1, acceptOf(1, valueOf(t, passOf(5))))
	out, err := alone.p.Stand(100)
	wantOut(t, "Stand", out, err)
	alone.wantTold("it passed", true, 2, 1, state)
}

// P12.4: a decision's mark is its moment: a request behind it has the time since then.
func TestDecidedMark(t *testing.T) {
	r := leading(t, 1, mountOf(2, 3, 1))
	if _, err := r.hear(140, accepted(0, 10, 5)); err != ok {
		t.Errorf("MsgAccepted: %d", err)
	}
	r.wantUnchanged("Pass at the mark", ok, func() ([]api.Message, api.Errno) { return r.p.Pass(140) })
	r.wantHeard("MsgRequest", 143, request(mountOf(1, 5, 1)), r.others(propose(10, 6, valueOf(t, after(3, mountOf(1, 5, 1)))))...)
}

// P12.4: MsgLearn of a slot that is done, of the next one, of one far beyond, of the last one and of one behind it.
func TestLearn(t *testing.T) {
	state, _ := behind(t, some(t), passOf(9))
	for _, slot := range []int{5, 6, 7, 1000, 1 << 32, maxCount - 1, maxCount} {
		for role, r := range eachRole(t) {
			r.wantHeard(role, 130, api.Message{Kind: mLearn, From: 2, Slot: slot, State: state})
			r.wantTold(role, role == "leads", 10, slot, state)
			r.wantTend(role, map[string][]api.Message{"stands": r.others(prepare(10, slot+1))}[role]...)
			for _, again := range []int{slot, slot - 1, 5, 4, 1, 0, -1, math.MinInt} {
				r.wantUnheard("MsgLearn of a slot that is done", api.Message{Kind: mLearn, From: 0, Slot: again, State: some(t)})
			}
			r.start(130)
			r.wantTold(role+", begun again", false, 10, slot, state)
		}
	}
	for role, r := range eachRole(t) {
		for _, slot := range []int{maxCount + 1, maxCount + 2, 1 << 62, math.MaxInt, 4, 3, 1, 0, -1, math.MinInt} {
			r.wantUnheard(role, api.Message{Kind: mLearn, From: 0, Slot: slot, State: state})
		}
	}
}

// P12.4: MsgLearn with a State that is none: nothing.
func TestLearnNoState(t *testing.T) {
	good := some(t)
	for role, r := range eachRole(t) {
		for _, s := range []string{"", "s", good + "\x00", good[:len(good)-1], good[1:], "\x04" + good[1:], mixed(1100, 1), mixed(1101, 1), mixed(1<<20, 1)} {
			for _, slot := range []int{4, 5, 6, maxCount, maxCount + 1} {
				r.wantUnheard(role, api.Message{Kind: mLearn, From: 0, Slot: slot, State: s})
			}
		}
	}
}

// P12.4: by what is learned no value is under way, the best is none, and the mark is the moment.
func TestLearnDrops(t *testing.T) {
	r := leading(t, 1, mountOf(2, 3, 1))
	r.wantHeard("MsgLearn", 130, api.Message{Kind: mLearn, From: 0, Slot: 5, State: some(t)})
	r.wantTold("it leads", true, 10, 5, some(t))
	r.wantTend("nothing is under way")
	r.wantUnheard("MsgAccepted of before", accepted(0, 10, 5))
	r.wantUnheard("MsgAccepted of the next slot", accepted(0, 10, 6))
	r.wantUnchanged("Pass at the mark", ok, func() ([]api.Message, api.Errno) { return r.p.Pass(130) })
	r.wantHeard("MsgRequest", 134, request(mountOf(2, 3, 1)), r.others(propose(10, 6, valueOf(t, after(4, mountOf(2, 3, 1)))))...)
	r = pendingRig(t, 1)
	r.wantHeard("MsgLearn", 130, api.Message{Kind: mLearn, From: 0, Slot: 5, State: some(t)})
	r.wantHeard("MsgPrepare", 130, api.Message{Kind: mPrepare, From: 0, Ballot: 9, Slot: 6}, api.Message{Kind: mPromise, To: 0, Ballot: 9, Slot: 6})
}

// P12.4: MsgNack with a ballot above the own one: who stands or leads follows, and promises nothing by it.
func TestNackHigh(t *testing.T) {
	for _, ballot := range []int{11, 12, maxCount, maxCount + 1, math.MaxInt} {
		for _, slot := range []int{math.MinInt, 0, 1, 4, 5, 6, math.MaxInt} {
			for role, r := range eachRole(t) {
				writes := r.s.Writes()
				r.wantHeard(role, 100, api.Message{Kind: mNack, From: 2, Ballot: ballot, Slot: slot})
				r.wantTold(role, false, 10, 4, some(t))
				r.wantTend(role)
				if r.s.Writes() != writes {
					t.Errorf("%s: MsgNack writes", role)
				}
			}
		}
	}
	r := leading(t, 1, mountOf(2, 3, 1))
	r.wantHeard("a value under way", 100, api.Message{Kind: mNack, From: 2, Ballot: 11, Slot: 5})
	r.wantTend("it follows")
	r.wantUnheard("MsgAccepted", accepted(0, 10, 5))
}

// P12.4: MsgNack with a ballot at or below the own one: who leads tells one that is behind what it knows; all else is nothing.
func TestNackBehind(t *testing.T) {
	for _, ballot := range []int{math.MinInt, -1, 0, 1, 7, 9, 10} {
		for role, r := range eachRole(t) {
			for _, from := range []int{0, 2} {
				for _, slot := range []int{math.MinInt, -1, 0, 1, 3, 4} {
					if role == "leads" {
						r.wantHeard(role, 100, api.Message{Kind: mNack, From: from, Ballot: ballot, Slot: slot}, api.Message{Kind: mLearn, To: from, Slot: 4, State: some(t)})
					} else {
						r.wantUnheard(role, api.Message{Kind: mNack, From: from, Ballot: ballot, Slot: slot})
					}
				}
				for _, slot := range []int{5, 6, 7, maxCount, math.MaxInt} {
					r.wantUnheard(role, api.Message{Kind: mNack, From: from, Ballot: ballot, Slot: slot})
				}
			}
			r.wantTold(role, role == "leads", 10, 4, some(t))
		}
	}
	r := leading(t, 1, mountOf(2, 3, 1))
	sent := r.tend()
	r.wantHeard("a value under way", 100, api.Message{Kind: mNack, From: 0, Ballot: 10, Slot: 4}, api.Message{Kind: mLearn, To: 0, Slot: 4, State: some(t)})
	r.wantTend("a value under way", sent...)
	for i := range 5 {
		fresh := started(t, 1, 3)
		fresh.lead(100)
		fresh.wantHeard(fmt.Sprint("a new one, slot ", -i), 100, api.Message{Kind: mNack, From: 0, Ballot: 1, Slot: -i}, api.Message{Kind: mLearn, To: 0, Slot: 0, State: begin(t, 3)})
	}
}
