package paxos_test

import (
	"encoding/binary"
	"fmt"
	"hash/crc32"
	"math/rand"
	"testing"

	"lagoon/api"
	"lagoon/journal"
	"lagoon/paxos"
	"lagoon/store"
)

// scene is a peer of n, what its store has, what is done with it, and then a call that writes.
type scene struct {
	what    string
	id, n   int
	records []string
	ahead   func(*rowOf)
	call    func(*rowOf)
}

// in is a message to the peer of a row.
func (r *rowOf) in(now int, m api.Message) {
	r.t.Helper()
	m.To = r.id
	r.handle(now, m)
}

// leads lets both stand, and lead by another one's vote.
func (r *rowOf) leads() {
	r.t.Helper()
	r.stand(100)
	if r.n > 1 {
		r.in(100, api.Message{Kind: mPromise, From: (r.id + 1) % r.n, Ballot: r.plain.own, Slot: r.plain.next()})
	}
}

// scenes are calls that write in all roles, of one, two and three peers.
func scenes(t *testing.T) []scene {
	state := some(t)
	lock := lockOf(0, 1, 4, 1, 9, 1)
	pending := recordsOf(9, 4, state, api.Accepted{Ballot: 7, Value: valueOf(t, lock)})
	idle := recordsOf(9, 4, state, none)
	nothing := func(*rowOf) {}
	stand := func(r *rowOf) { r.stand(100) }
	lead := func(r *rowOf) { r.leads() }
	busy := func(r *rowOf) { r.leads(); r.in(120, request(lock)) }
	other := func(r *rowOf) int { return (r.id + 1) % r.n }
	var l []scene
	for n := 1; n <= 3; n++ {
		id := n / 2
		l = append(l,
			scene{"Stand", id, n, idle, nothing, stand},
			scene{"Stand of a new one", id, n, nil, nothing, stand},
			scene{"Stand with something pending", id, n, pending, nothing, stand},
			scene{"Stand of one that leads", id, n, pending, lead, func(r *rowOf) { r.stand(130) }},
			scene{"Pass", id, n, idle, lead, func(r *rowOf) { r.pass(130) }},
			scene{"MsgRequest", id, n, idle, lead, func(r *rowOf) { r.in(130, request(lock)) }},
			scene{"MsgRequest of one that has decided", id, n, idle, func(r *rowOf) { busy(r); r.in(125, accepted(other(r), r.plain.own, 5)) }, func(r *rowOf) { r.in(130, request(mountOf(2, 1, 1))) }},
		)
	}
	for n := 2; n <= 3; n++ {
		l = append(l,
			scene{"MsgPromise of one with something accepted", 1, n, idle, stand, func(r *rowOf) {
				r.in(130, api.Message{Kind: mPromise, Ballot: r.plain.own, Slot: 5, Accepted: api.Accepted{Ballot: 8, Value: "v"}})
			}},
			scene{"MsgPromise of one ahead", 1, n, pending, stand, func(r *rowOf) {
				r.in(130, api.Message{Kind: mPromise, Ballot: r.plain.own, Slot: 7, State: state, Accepted: api.Accepted{Ballot: 8, Value: "v"}})
			}},
			scene{"MsgAccepted", 1, n, idle, busy, func(r *rowOf) { r.in(130, accepted(0, r.plain.own, 5)) }},
		)
		for role, ahead := range map[string]func(*rowOf){"follows": nothing, "stands": stand, "leads": lead, "has a value under way": busy} {
			l = append(l,
				scene{"MsgPrepare to one that " + role, 1, n, idle, ahead, func(r *rowOf) { r.in(130, api.Message{Kind: mPrepare, Ballot: 20, Slot: 3}) }},
				scene{"MsgPropose to one that " + role, 1, n, idle, ahead, func(r *rowOf) { r.in(130, proposal(0, 20, 5, "v")) }},
				scene{"MsgLearn to one that " + role, 1, n, pending, ahead, func(r *rowOf) { r.in(130, api.Message{Kind: mLearn, Slot: 8, State: state}) }},
			)
		}
	}
	return l
}

// at makes the rows of a scene, up to its call, on stores of these sectors.
func (x scene) at(t *testing.T, image [][]byte) *rowOf {
	t.Helper()
	r := &rowOf{t: t, rnd: rand.New(rand.NewSource(1)), id: x.id, n: x.n, stores: 3, now: 100, ways: map[string]int{}, s: from(t, image), twin: from(t, image)}
	r.start()
	x.ahead(r)
	return r
}

// sectors is how many sectors a record takes.
func sectors(r string) int {
	return max(1, (len(r)+46)/47)
}

// filled are records that make the same as these, behind so many others that the journal has room for just so many sectors more.
func filled(records []string, room int) []string {
	used := room
	for _, r := range records {
		used += sectors(r)
	}
	var ahead []string
	for range area - used {
		ahead = append(ahead, promiseOf(1))
	}
	return append(ahead, records...)
}

// dead makes all kinds of calls on both, whose journals are dead.
func (r *rowOf) dead() {
	r.t.Helper()
	q := r.plain
	from := (r.id + 1) % r.n
	r.tend(200)
	r.pass(200)
	for _, m := range []api.Message{{Kind: mPrepare, Ballot: q.a.Promised()}, {Kind: mPromise, Ballot: q.own, Slot: q.next()}, {Kind: mPromise, Ballot: q.own, Slot: q.next() + 1, State: some(r.t)},
		{Kind: mPrepare, Ballot: q.a.Promised() + 1}, {Kind: mPropose, Ballot: q.a.Promised() + 1, Slot: q.next(), Accepted: api.Accepted{Value: "w"}}, {Kind: mPropose, Ballot: q.a.Promised(), Slot: q.next() - 1},
		{Kind: mAccepted, Ballot: q.own, Slot: q.next()}, {Kind: mLearn, Slot: q.next(), State: some(r.t)}, {Kind: mNack, Ballot: q.own, Slot: 0}, request(mountOf(2, 1, 1)), request(lockOf(0, 1, 3, 1, 4, 2))} {
		if m.Kind != mRequest {
			m.From = from
		}
		r.in(200, m)
		r.wantAlike()
	}
	r.stand(200)
	r.wantAlike()
}

// goOn makes some calls on both that go well.
func (r *rowOf) goOn() {
	r.t.Helper()
	r.leads()
	r.wantAlike()
	r.in(210, request(mountOf(2, 9, 1)))
	r.wantAlike()
	r.in(210, accepted((r.id+1)%r.n, r.plain.own, r.plain.next()))
	r.wantAlike()
	r.pass(300)
	r.wantAlike()
}

// wantFailing lets the power fail at each write of a scene's call, and revives the stores in every way: what has come to pass is what the plain one says, no message stands beside the error, and the peer begins again as ahead of what failed, or as behind it.
func (x scene) wantFailing(t *testing.T, image [][]byte) {
	t.Helper()
	r := x.at(t, image)
	writes := r.s.Writes()
	x.call(r)
	writes = r.s.Writes() - writes
	if writes == 0 {
		t.Errorf("%s of %d writes nothing", x.what, x.n)
	}
	for at := range writes {
		pending := 1
		for keep := 0; keep <= pending; keep++ {
			for _, torn := range []bool{false, true} {
				r := x.at(t, image)
				r.s.Arm(at)
				r.twin.Arm(at)
				x.call(r)
				r.wantAlike()
				pending = r.s.Pending()
				if !r.s.Off() || r.ways[fmt.Sprint(x.n, ": error 13")] != 1 {
					t.Errorf("%s of %d: the power doesn't fail at write %d of %d", x.what, x.n, at, writes)
				}
				if keep == 0 {
					r.dead()
				}
				r.s.Revive(keep, torn)
				r.twin.Revive(keep, torn)
				if torn {
					r.dead()
				}
				r.start()
				r.wantAlike()
				r.goOn()
				r.wantAlikeSectors()
				if t.Failed() {
					t.Fatalf("%s of %d, the power fails at write %d of %d, %d kept, torn %v", x.what, x.n, at, writes, keep, torn)
				}
			}
		}
	}
}

// The power fails at every write of every call.
func TestPowerFails(t *testing.T) {
	for _, x := range scenes(t) {
		x.wantFailing(t, holding(t, x.records...).Image())
	}
}

// The same where the journal has no room: its Rewrite is part of the call. (What is done ahead of the call takes less than the room that is left there.)
func TestPowerFailsInRewrite(t *testing.T) {
	for _, x := range scenes(t) {
		r := x.at(t, holding(t, filled(x.records, 20)...).Image())
		used := r.s.Writes()
		r = x.at(t, holding(t, filled(x.records, used)...).Image())
		x.call(r)
		if j, _, err := journal.Open(from(t, r.s.Image())); err != ok || j.Gen() != 2 {
			t.Errorf("%s of %d: the journal isn't written anew", x.what, x.n)
		}
		for room := range 2 {
			x.wantFailing(t, holding(t, filled(x.records, used+room)...).Image())
		}
	}
}

// The same with the power off ahead of the call.
func TestPowerOff(t *testing.T) {
	for _, x := range scenes(t) {
		r := x.at(t, holding(t, x.records...).Image())
		r.s.Fail()
		r.twin.Fail()
		x.call(r)
		r.wantAlike()
		r.dead()
		r.s.Revive(0, true)
		r.twin.Revive(0, true)
		r.dead()
		r.start()
		r.goOn()
	}
}

// failedAt is a rig of which the call fails at this write, counted from 0 on.
func (r *rig) failedAt(at int, what string, call func() ([]api.Message, api.Errno)) {
	r.t.Helper()
	r.s.Arm(at)
	out, err := call()
	wantErr(r.t, fmt.Sprintf("%s, the power fails at write %d", what, at), out, err, 13)
}

// What has come to pass ahead of the acceptor's error, and what hasn't, written down: Stand.
func TestStandFails(t *testing.T) {
	for n := 2; n <= 3; n++ {
		r := started(t, 1, n, recordsOf(9, 4, some(t), none)...)
		r.failedAt(0, "Stand", func() ([]api.Message, api.Errno) { return r.p.Stand(100) })
		r.wantTold("it follows", false, 9, 4, some(t))
		r.wantTend("it follows")
	}
	value := valueOf(t, passOf(7))
	behindIt, _ := behind(t, some(t), passOf(7))
	for at := range 2 + sectors(learnOf(5, behindIt)) {
		r := started(t, 0, 1, recordsOf(9, 4, some(t), api.Accepted{Ballot: 7, Value: value})...)
		r.failedAt(at, "Stand", func() ([]api.Message, api.Errno) { return r.p.Stand(100) })
		r.wantTold("told", at > 0, 9+min(at, 1), 4, some(t))
		writes := r.s.Writes()
		r.s.Revive(0, false)
		r.start(100)
		r.wantTold("begun again", false, 9+min(at, 1), 4, some(t))
		want := recordsOf(9, 4, some(t), api.Accepted{Ballot: 7, Value: value})
		want = append(want, []string{promiseOf(10), acceptOf(10, value)}[:min(at, 2)]...)
		wantRecords(t, r.s, want)
		if writes != at+1 {
			t.Errorf("%d writes; want %d", writes, at+1)
		}
	}
}

// wantRecords holds a store's journal against the records that should stand there.
func wantRecords(t *testing.T, s *store.Store, want []string) {
	t.Helper()
	_, l, err := journal.Open(from(t, s.Image()))
	var got []string
	for _, b := range l {
		got = append(got, string(b))
	}
	if err != ok || fmt.Sprintf("%q", got) != fmt.Sprintf("%q", want) {
		t.Errorf("the journal, error %d, has %q; want %q", err, got, want)
	}
}

// The same: a value is proposed, and decided.
func TestProposeFails(t *testing.T) {
	lock := lockOf(0, 1, 4, 1, 9, 1)
	r := eachRole(t)["leads"]
	r.failedAt(0, "MsgRequest", func() ([]api.Message, api.Errno) { return r.hear(110, request(lock)) })
	r.wantTold("it leads", true, 10, 4, some(t))
	r.wantTend("the value is under way", r.others(propose(10, 5, valueOf(t, after(10, lock))))...)
	r.wantUnheard("MsgRequest", request(mountOf(2, 1, 1)))

	r = eachRole(t)["leads"]
	r.failedAt(0, "Pass", func() ([]api.Message, api.Errno) { return r.p.Pass(110) })
	r.wantTold("it leads", true, 10, 4, some(t))
	r.wantTend("the value is under way", r.others(propose(10, 5, valueOf(t, passOf(10))))...)

	r = eachRole(t)["stands"]
	r.failedAt(0, "MsgPromise", func() ([]api.Message, api.Errno) {
		return r.hear(110, vote(0, 5, "", api.Accepted{Ballot: 8, Value: "v"}))
	})
	r.wantTold("it leads", true, 10, 4, some(t))
	r.wantTend("the best is under way", r.others(propose(10, 5, "v"))...)

	r = leading(t, 1, lock)
	r.failedAt(0, "MsgAccepted", func() ([]api.Message, api.Errno) { return r.hear(130, accepted(0, 10, 5)) })
	r.wantTold("it leads", true, 10, 4, some(t))
	one := propose(10, 5, valueOf(t, after(20, lock)))
	one.To = 2
	r.wantTend("2 hasn't accepted", one)
	r.wantUnheard("MsgRequest", request(mountOf(2, 1, 1)))
}

// The same: what comes from other peers.
func TestHearFails(t *testing.T) {
	state, _ := behind(t, some(t), passOf(9))
	for role, r := range eachRole(t) {
		sent := r.tend()
		r.failedAt(0, "MsgPrepare", func() ([]api.Message, api.Errno) {
			return r.hear(130, api.Message{Kind: mPrepare, From: 0, Ballot: 12, Slot: 5})
		})
		r.wantTold(role+": nothing is promised", role == "leads", 10, 4, some(t))
		r.wantTend(role+" goes on", sent...)
	}
	for role, r := range eachRole(t) {
		r.failedAt(0, "MsgPropose", func() ([]api.Message, api.Errno) { return r.hear(130, proposal(0, 12, 5, "v")) })
		r.wantTold(role+": nothing is accepted", false, 10, 4, some(t))
		r.wantTend(role + " follows")
	}
	for role, r := range eachRole(t) {
		sent := r.tend()
		r.failedAt(1, "MsgLearn", func() ([]api.Message, api.Errno) {
			return r.hear(130, api.Message{Kind: mLearn, From: 0, Slot: 9, State: state})
		})
		r.wantTold(role+": nothing is learned", role == "leads", 10, 4, some(t))
		r.wantTend(role+" goes on", sent...)
	}
	r := eachRole(t)["stands"]
	r.failedAt(2, "MsgPromise of one ahead", func() ([]api.Message, api.Errno) {
		return r.hear(130, vote(2, 9, state, api.Accepted{Ballot: 3, Value: "v"}))
	})
	r.wantTold("nothing is learned", false, 10, 4, some(t))
	r.wantTend("nobody has voted", r.others(prepare(10, 5))...)
	r = eachRole(t)["stands"]
	r.failedAt(sectors(learnOf(8, state)), "MsgPromise of one ahead", func() ([]api.Message, api.Errno) {
		return r.hear(130, vote(2, 9, state, api.Accepted{Ballot: 3, Value: "v"}))
	})
	r.wantTold("it leads", true, 10, 8, state)
	r.wantTend("its value is under way", r.others(propose(10, 9, "v"))...)
}

// headOf is a head that names a generation and area 0, as chapter 5 has it.
func headOf(gen int) []byte {
	b := make([]byte, 60)
	binary.LittleEndian.PutUint32(b, uint32(gen))
	b[9], b[10] = 1, 1
	return binary.LittleEndian.AppendUint32(b, crc32.Checksum(b, crc32.MakeTable(crc32.Castagnoli)))
}

// worn is a peer of n on a journal of the last generation, with room for just so many sectors more.
func worn(t *testing.T, id, n, room int) *rig {
	t.Helper()
	image := blank(need)
	image[0] = headOf(1 << 30)
	s := from(t, image)
	j, _, err := journal.Open(s)
	if err != ok {
		t.Fatalf("journal.Open: %d", err)
	}
	for _, r := range filled(recordsOf(9, 4, some(t), none), room) {
		if err := j.Append([]byte(r)); err != ok {
			t.Fatalf("the journal's Append: %d", err)
		}
	}
	r := &rig{t: t, s: from(t, s.Image()), id: id, n: n}
	r.start(100)
	return r
}

// A worn journal's error is answered as it is, by each call that writes; what is told ahead of it has come to pass, and what writes nothing goes on.
func TestWorn(t *testing.T) {
	r := worn(t, 1, 3, 0)
	r.wantUnchanged("Stand", 15, func() ([]api.Message, api.Errno) { return r.p.Stand(100) })
	for _, m := range []api.Message{{Kind: mPrepare, Ballot: 12, Slot: 5}, proposal(0, 12, 5, "v"), {Kind: mLearn, Slot: 5, State: some(t)}} {
		r.wantUnchanged("Handle", errWorn, func() ([]api.Message, api.Errno) { return r.hear(100, m) })
	}
	r.wantHeard("MsgPrepare of the promised ballot", 100, api.Message{Kind: mPrepare, From: 2, Ballot: 9, Slot: 5}, api.Message{Kind: mPromise, To: 2, Ballot: 9, Slot: 5})
	r = worn(t, 1, 3, 1)
	r.lead(100)
	out, err := r.hear(100, request(mountOf(2, 1, 1)))
	wantErr(t, "MsgRequest", out, err, errWorn)
	r.wantTold("it leads", true, 10, 4, some(t))
	r.wantTend("its value is under way", r.others(propose(10, 5, valueOf(t, mountOf(2, 1, 1))))...)
	r = worn(t, 1, 3, 2)
	r.lead(100)
	r.wantHeard("MsgRequest", 100, request(mountOf(2, 1, 1)), r.others(propose(10, 5, valueOf(t, mountOf(2, 1, 1))))...)
	for range 2 {
		out, err = r.hear(100, accepted(2, 10, 5))
		wantErr(t, "MsgAccepted", out, err, errWorn)
		one := propose(10, 5, valueOf(t, mountOf(2, 1, 1)))
		r.wantTend("2 has accepted, 0 hasn't", one)
	}
	r = worn(t, 0, 1, 1)
	out, err = r.p.Stand(100)
	wantOut(t, "Stand", out, err)
	out, err = r.p.Pass(101)
	wantErr(t, "Pass", out, err, errWorn)
	r.wantTold("it leads", true, 10, 4, some(t))
}

// A store whose power failed and came back between two calls: the peer goes on, for none of its calls has failed.
func TestPowerBetween(t *testing.T) {
	r := leading(t, 1, mountOf(2, 1, 1))
	r.s.Fail()
	r.s.Revive(0, true)
	state, view := behind(t, some(t), after(20, mountOf(2, 1, 1)))
	r.wantHeard("MsgAccepted", 130, accepted(0, 10, 5), append(r.others(learn(5, state)), answer(after(20, mountOf(2, 1, 1)), view))...)
	r.wantTold("it is decided", true, 10, 5, state)
}

// Start fails on a store that is off, and goes well once it is revived: all is as it was.
func TestStartAgain(t *testing.T) {
	r := leading(t, 1, mountOf(2, 1, 1))
	r.s.Fail()
	if p, err := paxos.Start(1, 3, 3, r.s, 130); p != nil || err != errPower {
		t.Errorf("Start: %v, %d", p, err)
	}
	r.wantTold("it leads, for all that it knows", true, 10, 4, some(t))
	r.s.Revive(0, false)
	r.start(130)
	r.wantTold("begun again", false, 10, 4, some(t))
	r.wantTend("begun again")
}
