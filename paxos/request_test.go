package paxos_test

import (
	"math"
	"testing"

	"lagoon/api"
)

// P12.4: MsgRequest at a peer that doesn't lead: nothing, whatever it asks for.
func TestRequestUnheard(t *testing.T) {
	for role, r := range eachRole(t) {
		if role == "leads" {
			continue
		}
		for _, c := range []api.Command{mountOf(2, 1, 1), lockOf(0, 1, 3, 1, 4, 2), renewOf(0, 1, 4, 1), mountOf(0, 1, 1), passOf(1), {}} {
			r.wantUnheard(role, request(c))
		}
	}
}

// P12.4: MsgRequest with a Command that may not be, with CmdPass, with a D that isn't 0, and from another server than its own: nothing, also if the state knows its Boot and Seq.
func TestRequestAmiss(t *testing.T) {
	r := eachRole(t)["leads"]
	last, next := lockOf(0, 1, 3, 1, 4, 2), lockOf(0, 1, 4, 1, 4, 2)
	for _, c := range []api.Command{last, next} {
		for _, amiss := range []func(*api.Command){
			func(c *api.Command) { c.Kind = 0 },
			func(c *api.Command) { c.Kind = -1 },
			func(c *api.Command) { c.Kind = 9 },
			func(c *api.Command) { c.Kind = kMount },
			func(c *api.Command) { *c = passOf(1) },
			func(c *api.Command) { *c = passOf(0) },
			func(c *api.Command) { c.Kind, c.D = kPass, 1 },
			func(c *api.Command) { c.Gen = -1 },
			func(c *api.Command) { c.Gen = maxCount + 1 },
			func(c *api.Command) { c.Lock = 19 },
			func(c *api.Command) { c.Mode = 0 },
			func(c *api.Command) { c.Mode = 3 },
			func(c *api.Command) { c.Other = 1 },
			func(c *api.Command) { c.Members = []int{0} },
			func(c *api.Command) { c.D = -1 },
			func(c *api.Command) { c.D = 1 },
			func(c *api.Command) { c.D = 20 },
			func(c *api.Command) { c.D = maxPass },
			func(c *api.Command) { c.D = maxPass + 1 },
			func(c *api.Command) { c.D = math.MaxInt },
		} {
			x := c
			amiss(&x)
			r.wantUnheard("a command that may not be asked for", request(x))
		}
		for _, from := range []int{9, 10} {
			m := request(c)
			m.From = from
			r.wantUnheard("another server's command", m)
		}
	}
	for _, server := range []int{-1, 3, -8, 1 << 32, math.MinInt, math.MaxInt} {
		for from := 8; from <= 10; from++ {
			m := request(mountOf(server, 1, 1))
			m.From = from
			r.wantUnheard("a server that is none", m)
		}
	}
	for _, x := range [][2]int{{0, 1}, {1, 0}, {-1, 1}, {1, -1}, {maxCount + 1, 1}, {1, maxCount + 1}, {math.MaxInt, 1}, {2, math.MinInt}} {
		r.wantUnheard("a Boot or a Seq that is none", request(mountOf(2, x[0], x[1])))
	}
}

// P12.4: MsgRequest with the Boot and Seq that the state knows: the same answer again, with the command as it came, also while a value is under way; nothing is written.
func TestRequestAgain(t *testing.T) {
	state := stateOf(t, some(t))
	idle := eachRole(t)["leads"]
	busy := leading(t, 1, mountOf(2, 3, 1))
	for _, r := range []*rig{idle, busy} {
		sent, writes := r.tend(), r.s.Writes()
		for _, c := range []api.Command{lockOf(0, 1, 3, 1, 4, 2), lockOf(0, 1, 3, 7, 0, 1), renewOf(0, 1, 3, 1), mountOf(0, 1, 3), chainOf(0, 1, 3, 1, 2, 1), mountOf(1, 4, 1), renewOf(1, 4, 1, 0)} {
			for _, now := range []int{0, 99, 150, maxTime} {
				r.wantHeard("the last command again", now, request(c), answer(c, state.Servers[c.Server].Answer))
			}
		}
		r.wantTold("answered", true, 10, 4, some(t))
		r.wantTend("answered", sent...)
		if r.s.Writes() != writes {
			t.Error("an answer writes")
		}
	}
}

// P12.4: the answer that is given again is the one of then, though the state has gone on.
func TestRequestAgainLater(t *testing.T) {
	r := started(t, 0, 1)
	r.stand(100)
	mount := mountOf(0, 1, 1)
	_, view := behind(t, begin(t, 3), mount)
	r.wantHeard("MsgRequest", 100, request(mount), answer(mount, view))
	state, _ := behind(t, begin(t, 3), mount, mountOf(1, 1, 1), chainOf(1, 1, 2, 1, 1, 2), passOf(70))
	for _, c := range []api.Command{mountOf(1, 1, 1), chainOf(1, 1, 2, 1, 1, 2)} {
		if _, err := r.hear(100, request(c)); err != ok {
			t.Errorf("MsgRequest: %d", err)
		}
	}
	if _, err := r.p.Pass(170); err != ok {
		t.Errorf("Pass: %d", err)
	}
	r.wantTold("they are gone", true, 1, 4, state)
	for range 2 {
		r.wantHeard("the first command again", 180, request(mount), answer(mount, view))
	}
	r.wantTold("it is answered", true, 1, 4, state)
	r.start(200)
	r.stand(200)
	r.wantHeard("the first command again, to another life", 200, request(mount), answer(mount, view))
}

// P12.4: MsgRequest with an older Boot or Seq, or one that is ahead: nothing.
func TestRequestStale(t *testing.T) {
	r := eachRole(t)["leads"]
	for _, c := range []api.Command{mountOf(0, 1, 1), chainOf(0, 1, 2, 1, 2, 0), renewOf(0, 1, 1, 1), renewOf(0, 1, 5, 1), renewOf(0, 1, maxCount, 1), mountOf(0, 2, 2), renewOf(0, 2, 4, 1), mountOf(1, 3, 1), renewOf(1, 3, 2, 1), mountOf(1, 1, 5), mountOf(1, 5, 2), mountOf(2, 1, 2), renewOf(2, 1, 3, 0)} {
		r.wantUnheard("a command that is stale", request(c))
	}
}

// P12.4: MsgRequest while a value is under way: nothing.
func TestRequestBusy(t *testing.T) {
	r := leading(t, 1, mountOf(2, 3, 1))
	for _, c := range []api.Command{mountOf(2, 3, 1), mountOf(2, 4, 1), lockOf(0, 1, 4, 1, 9, 1), mountOf(1, 5, 1), mountOf(0, 1, 1)} {
		r.wantUnheard("a value is under way", request(c))
	}
	if _, err := r.hear(140, accepted(0, 10, 5)); err != ok {
		t.Errorf("MsgAccepted: %d", err)
	}
	r.wantHeard("nothing is under way", 140, request(lockOf(0, 1, 4, 1, 9, 1)), r.others(propose(10, 6, valueOf(t, lockOf(0, 1, 4, 1, 9, 1))))...)
}

// P12.4: MsgRequest of a new command: it is proposed with the time that has passed since the mark, at least 0, at most MaxPass.
func TestRequest(t *testing.T) {
	for _, x := range []struct{ now, d int }{{0, 0}, {99, 0}, {100, 0}, {101, 1}, {160, 60}, {161, 61}, {99 + maxPass, maxPass - 1}, {100 + maxPass, maxPass}, {101 + maxPass, maxPass}, {maxTime, maxPass}} {
		for _, c := range []api.Command{mountOf(2, 1, 1), mountOf(2, maxCount, 1), lockOf(0, 1, 4, 1, 9, 1), renewOf(0, 1, 4, 9), mountOf(0, 2, 1), mountOf(1, 5, 1), chainOf(1, 4, 2, 1, 0, 1, 2), chainOf(1, 4, 2, 1, 0, 0)} {
			r := eachRole(t)["leads"]
			value := valueOf(t, after(x.d, c))
			r.wantHeard("MsgRequest", x.now, request(c), r.others(propose(10, 5, value))...)
			r.wantTold("it is under way", true, 10, 4, some(t))
			r.wantTend("it is under way", r.others(propose(10, 5, value))...)
			state, view := behind(t, some(t), after(x.d, c))
			r.wantHeard("MsgAccepted", x.now, accepted(0, 10, 5), append(r.others(learn(5, state)), answer(after(x.d, c), view))...)
			r.wantTold("it is decided", true, 10, 5, state)
			r.wantHeard("the same again", x.now, request(c), answer(c, view))
		}
	}
}

// P12.4: of one peer alone a request is decided and answered at once.
func TestRequestAlone(t *testing.T) {
	r := started(t, 0, 1)
	r.stand(100)
	state := begin(t, 3)
	for slot, x := range []struct {
		now, d int
		c      api.Command
	}{{105, 5, mountOf(0, 1, 1)}, {105, 0, mountOf(1, 2, 1)}, {90, 0, lockOf(0, 1, 2, 1, 4, 2)}, {95, 5, lockOf(1, 2, 2, 1, 4, 1)}, {160, 65, renewOf(0, 1, 3, 1)}, {160, 0, mountOf(2, 1, 1)}} {
		var view api.View
		state, view = behind(t, state, after(x.d, x.c))
		r.wantHeard("MsgRequest", x.now, request(x.c), answer(after(x.d, x.c), view))
		r.wantTold("it is decided", true, 1, slot+1, state)
		r.wantTend("it is decided")
		r.wantHeard("the same again", x.now, request(x.c), answer(x.c, view))
	}
}

// P12.4: a request beyond MaxTime is decided, changes nothing, and isn't answered; it may come again.
func TestRequestBeyond(t *testing.T) {
	late := stateOf(t, some(t))
	late.Time = maxTime - 5
	r := started(t, 0, 1, learnOf(3, textOf(t, late)))
	r.stand(100)
	c := mountOf(2, 1, 1)
	r.wantHeard("MsgRequest", 106, request(c))
	r.wantTold("it is decided", true, 1, 4, textOf(t, late))
	state, view := behind(t, textOf(t, late), after(5, c))
	r.wantHeard("the same again", 111, request(c), answer(after(5, c), view))
	r.wantTold("it is decided", true, 1, 5, state)
}

// P12.4: behind the last slot there is none: what the acceptor answers.
func TestLastSlot(t *testing.T) {
	state := some(t)
	r := started(t, 0, 1, learnOf(maxCount-1, state))
	r.stand(100)
	c := mountOf(2, 1, 1)
	want, view := behind(t, state, c)
	r.wantHeard("MsgRequest for the last slot", 100, request(c), answer(c, view))
	r.wantTold("it is decided", true, 1, maxCount, want)
	r.wantHeard("the same again", 100, request(c), answer(c, view))
	out, err := r.hear(100, request(mountOf(2, 2, 1)))
	wantErr(t, "MsgRequest behind the last slot", out, err, 2)
	r.wantTold("behind the last slot", true, 1, maxCount, want)
	r = started(t, 0, 1, learnOf(maxCount, state))
	r.stand(100)
	out, err = r.p.Pass(101)
	wantErr(t, "Pass behind the last slot", out, err, errRange)
	r.wantTold("behind the last slot", true, 1, maxCount, state)
	r = started(t, 0, 2, learnOf(maxCount, state))
	ballot := r.lead(100)
	out, err = r.p.Pass(101)
	wantErr(t, "Pass behind the last slot", out, err, errRange)
	r.wantTend("it is under way", r.others(propose(ballot, maxCount+1, valueOf(t, passOf(1))))...)
}

// P12.4: a value of the own ballot that another one has had accepted meanwhile: what the acceptor answers.
func TestProposeTaken(t *testing.T) {
	r := eachRole(t)["leads"]
	r.wantHeard("MsgPropose with the own ballot", 100, proposal(0, 10, 5, "v"), api.Message{Kind: mAccepted, To: 0, Ballot: 10, Slot: 5})
	out, err := r.hear(110, request(mountOf(2, 1, 1)))
	wantErr(t, "MsgRequest", out, err, errBallot)
	r.wantTold("it leads", true, 10, 4, some(t))
	r.wantUnheard("MsgRequest again", request(mountOf(2, 1, 1)))
}
