package paxos_test

import (
	"bytes"
	"fmt"
	"math"
	"math/rand"
	"slices"
	"testing"

	"lagoon/acceptor"
	"lagoon/api"
	"lagoon/paxos"
	"lagoon/service"
	"lagoon/store"
)

// plain is a peer as the chapter tells it, on an acceptor of its own. What the acceptor answers as an error ends a call by a panic.
type plain struct {
	t         *testing.T
	id, n     int
	a         *acceptor.Acceptor
	role      string
	own       int
	votes     []int
	best      api.Accepted
	underWay  string
	acceptors []int
	mark      int
	now       int
	sent      []api.Message
	ways      map[string]int // which ways it has gone, and how often
}

// plainStart as P12.1 tells it.
func plainStart(t *testing.T, ways map[string]int, id, n, stores int, s *store.Store, now int) (*plain, api.Errno) {
	x, err := service.Start(stores)
	if n < 1 || n > 3 || id < 0 || id > n-1 || err != ok || now < 0 || now > maxTime {
		return nil, errRange
	}
	a, err := acceptor.Open(s, textOf(t, x))
	if err != ok {
		return nil, err
	}
	if _, err := service.Decode(a.State()); err != ok {
		return nil, errRecord
	}
	return &plain{t: t, id: id, n: n, a: a, role: "follows", mark: now, ways: ways}, ok
}

// went notes a way.
func (p *plain) went(way string, with ...any) {
	p.ways[fmt.Sprintf("%d: ", p.n)+fmt.Sprintf(way, with...)]++
}

// call makes a call at a moment.
func (p *plain) call(now int, does func()) (sent []api.Message, err api.Errno) {
	if now < 0 || now > maxTime {
		return nil, errRange
	}
	defer func() {
		if x := recover(); x != nil {
			e, is := x.(api.Errno)
			if !is {
				panic(x)
			}
			sent, err = nil, e
			p.went("error %d", err)
		}
	}()
	p.now, p.sent = now, nil
	does()
	return p.sent, ok
}

// must ends the call at an error of the acceptor.
func (p *plain) must(err api.Errno) {
	if err != ok {
		panic(err)
	}
}

func (p *plain) next() int { return p.a.Done() + 1 }

func (p *plain) most(l []int) bool { return len(l) > p.n/2 }

func (p *plain) add(l []int, id int) []int {
	if slices.Contains(l, id) {
		return l
	}
	return append(slices.Clone(l), id)
}

func (p *plain) send(to int, m api.Message) {
	m.From, m.To = p.id, to
	p.sent = append(p.sent, m)
}

func (p *plain) sendOthers(but []int, m api.Message) {
	for to := 0; to < p.n; to++ {
		if to != p.id && !slices.Contains(but, to) {
			p.send(to, m)
		}
	}
}

// learn as the Words tell it.
func (p *plain) learn(slot int, state string) {
	p.must(p.a.Learn(slot, state))
	p.best, p.underWay, p.mark = none, "", p.now
}

// lead as the Words tell it.
func (p *plain) lead() {
	p.role, p.mark = "leads", p.now
	if p.best.Ballot != 0 {
		p.went("leads with a best")
		p.propose(p.best.Value)
	} else {
		p.went("leads without a best")
	}
}

// propose as the Words tell it.
func (p *plain) propose(value string) {
	p.underWay = value
	p.must(p.a.Accept(p.own, p.next(), value))
	p.acceptors = []int{p.id}
	if p.most(p.acceptors) {
		p.decide()
		return
	}
	p.sendOthers(nil, api.Message{Kind: mPropose, Ballot: p.own, Slot: p.next(), Accepted: api.Accepted{Ballot: p.own, Value: value}})
}

// decide as the Words tell it.
func (p *plain) decide() {
	slot, value, state := p.next(), p.underWay, p.a.State()
	c, err := service.DecodeCommand(value)
	var view api.View
	if err == ok {
		var x api.State
		x, view = service.Apply(stateOf(p.t, state), c)
		state = textOf(p.t, x)
	}
	p.learn(slot, state)
	p.sendOthers(nil, api.Message{Kind: mLearn, Slot: slot, State: state})
	if err != ok || c.Kind == kPass {
		p.went("decided: a command %v, kind %d", err == ok, c.Kind)
		return
	}
	if m := stateOf(p.t, state).Servers[c.Server]; m.Boot == c.Boot && m.Seq == c.Seq {
		p.went("decided: answered %d", view.Code)
		p.send(8+c.Server, api.Message{Kind: mAnswer, Command: c, View: view})
	} else {
		p.went("decided: not answered, for %d", view.Code)
	}
}

// stand as P12.2 tells it.
func (p *plain) stand() {
	ballot := p.a.Promised() + 1
	for ballot%p.n != p.id {
		ballot++
	}
	if ballot > maxCount {
		p.went("no ballot")
		panic(errBallot)
	}
	p.must(p.a.Promise(ballot))
	p.own, p.role, p.votes, p.best = ballot, "stands", []int{p.id}, p.a.Pending()
	p.went("stands, pending %v", p.best != none)
	if p.most(p.votes) {
		p.lead()
		return
	}
	p.sendOthers(p.votes, api.Message{Kind: mPrepare, Ballot: ballot, Slot: p.next()})
}

// pass as P12.3 tells it.
func (p *plain) pass() {
	if p.role == "leads" && p.underWay == "" && p.now > p.mark {
		p.went("passes, the most %v", p.now-p.mark > maxPass)
		p.propose(valueOf(p.t, passOf(min(p.now-p.mark, maxPass))))
	}
}

// tend as P12.3 tells it.
func (p *plain) tend() {
	if p.role == "stands" {
		p.sendOthers(p.votes, api.Message{Kind: mPrepare, Ballot: p.own, Slot: p.next()})
	}
	if p.role == "leads" && p.underWay != "" {
		p.sendOthers(p.acceptors, api.Message{Kind: mPropose, Ballot: p.own, Slot: p.next(), Accepted: api.Accepted{Ballot: p.own, Value: p.underWay}})
	}
}

// handle as P12.4 tells it.
func (p *plain) handle(m api.Message) {
	isPeer, isServer := m.From >= 0 && m.From < p.n && m.From != p.id, m.From >= 8 && m.From <= 10
	does := map[api.MsgKind]func(api.Message){mPrepare: p.prepare, mPromise: p.promise, mPropose: p.proposed, mAccepted: p.accepted, mLearn: p.learned, mNack: p.nack, mRequest: p.request}[m.Kind]
	if m.To != p.id || does == nil || m.Kind == mRequest && !isServer || m.Kind != mRequest && !isPeer {
		p.went("ErrKind")
		panic(errKind)
	}
	does(m)
}

func (p *plain) isState(s string) bool {
	_, err := service.Decode(s)
	return err == ok
}

func (p *plain) isLow(ballot int) bool { return ballot < 1 || ballot < p.a.Promised() }

func (p *plain) sendNack(to int) {
	p.send(to, api.Message{Kind: mNack, Ballot: p.a.Promised(), Slot: p.next()})
}

func (p *plain) sendState(to int) {
	p.send(to, api.Message{Kind: mLearn, Slot: p.a.Done(), State: p.a.State()})
}

func (p *plain) prepare(m api.Message) {
	if p.isLow(m.Ballot) {
		p.went("MsgPrepare: low")
		p.sendNack(m.From)
		return
	}
	p.must(p.a.Promise(m.Ballot))
	p.went("MsgPrepare: %s, above the own %v, below the next slot %v, pending %v", p.role, m.Ballot > p.own, m.Slot < p.next(), p.a.Pending() != none)
	if m.Ballot > p.own {
		p.role = "follows"
	}
	out := api.Message{Kind: mPromise, Ballot: m.Ballot, Slot: p.next(), Accepted: p.a.Pending()}
	if m.Slot <= p.a.Done() {
		out.State = p.a.State()
	}
	p.send(m.From, out)
}

func (p *plain) promise(m api.Message) {
	if p.role != "stands" || m.Ballot != p.own {
		p.went("MsgPromise: %s, the own ballot %v", p.role, m.Ballot == p.own)
		return
	}
	if m.Slot > p.next() {
		if !p.isState(m.State) {
			p.went("MsgPromise: no state")
			return
		}
		p.learn(m.Slot-1, m.State)
		p.went("MsgPromise: learned")
	}
	p.votes = p.add(p.votes, m.From)
	if m.Slot == p.next() && m.Accepted.Ballot > p.best.Ballot {
		p.went("MsgPromise: a better one, behind one %v", p.best.Ballot > 0)
		p.best = m.Accepted
	}
	if p.most(p.votes) {
		p.lead()
	}
}

func (p *plain) proposed(m api.Message) {
	if p.isLow(m.Ballot) || m.Slot > p.next() {
		p.went("MsgPropose: low %v", p.isLow(m.Ballot))
		if p.isLow(m.Ballot) || m.Slot > p.a.Done() {
			p.sendNack(m.From)
		}
		return
	}
	if m.Slot <= p.a.Done() {
		p.went("MsgPropose: done")
		p.sendState(m.From)
		return
	}
	was := p.role
	if m.Ballot > p.own {
		p.role = "follows"
	}
	err := p.a.Accept(m.Ballot, m.Slot, m.Accepted.Value)
	p.went("MsgPropose: %s, above the own %v, Accept %d", was, m.Ballot > p.own, err)
	if err == errRange || err == errBallot {
		return
	}
	p.must(err)
	p.send(m.From, api.Message{Kind: mAccepted, Ballot: m.Ballot, Slot: m.Slot})
}

func (p *plain) accepted(m api.Message) {
	if p.role != "leads" || p.underWay == "" || m.Ballot != p.own || m.Slot != p.next() {
		p.went("MsgAccepted: %s, under way %v, the own ballot %v, the next slot %v", p.role, p.underWay != "", m.Ballot == p.own, m.Slot == p.next())
		return
	}
	p.acceptors = p.add(p.acceptors, m.From)
	if p.most(p.acceptors) {
		p.decide()
	}
}

func (p *plain) learned(m api.Message) {
	if m.Slot <= p.a.Done() || m.Slot > maxCount || !p.isState(m.State) {
		p.went("MsgLearn: done %v, above all %v", m.Slot <= p.a.Done(), m.Slot > maxCount)
		return
	}
	p.learn(m.Slot, m.State)
	p.went("MsgLearn: learned, %s", p.role)
}

func (p *plain) nack(m api.Message) {
	p.went("MsgNack: %s, above the own %v, done %v", p.role, m.Ballot > p.own, m.Slot <= p.a.Done())
	if p.role == "follows" {
		return
	}
	if m.Ballot > p.own {
		p.role = "follows"
	} else if p.role == "leads" && m.Slot <= p.a.Done() {
		p.sendState(m.From)
	}
}

func (p *plain) request(m api.Message) {
	c := m.Command
	if p.role != "leads" || !service.ValidCommand(c) || c.Kind == kPass || c.D != 0 || m.From != c.Server+8 {
		p.went("MsgRequest: nothing, leads %v", p.role == "leads")
		return
	}
	x := stateOf(p.t, p.a.State())
	_, v := service.Apply(x, c)
	if known := x.Servers[c.Server]; known.Boot == c.Boot && known.Seq == c.Seq {
		p.went("MsgRequest: known, under way %v", p.underWay != "")
		p.send(m.From, api.Message{Kind: mAnswer, Command: c, View: known.Answer})
		return
	}
	if v.Code == errStale || p.underWay != "" {
		p.went("MsgRequest: stale %v", v.Code == errStale)
		return
	}
	c.D = max(p.now-p.mark, 0)
	p.went("MsgRequest: proposed, at the mark %v, the most %v", c.D == 0, c.D > maxPass)
	c.D = min(c.D, maxPass)
	p.propose(valueOf(p.t, c))
}

// rowOf is a peer and a plain one, each on a store of its own; both have the same done to them.
type rowOf struct {
	t       *testing.T
	rnd     *rand.Rand
	id, n   int
	stores  int
	s, twin *store.Store
	peer    *paxos.Peer
	plain   *plain
	now     int
	ways    map[string]int
	last    string // what was done last
}

// one is one of several things.
func one[T any](rnd *rand.Rand, l ...T) T {
	return l[rnd.Intn(len(l))]
}

// start begins both.
func (r *rowOf) start() {
	r.t.Helper()
	p, err := paxos.Start(r.id, r.n, r.stores, r.s, r.now)
	q, want := plainStart(r.t, r.ways, r.id, r.n, r.stores, r.twin, r.now)
	if err != want || (p == nil) != (q == nil) {
		r.t.Errorf("Start: %v, %d; want %d", p, err, want)
	}
	if p != nil && q != nil {
		r.peer, r.plain = p, q
	}
}

// both makes one call on both, and holds what they answer against each other.
func (r *rowOf) both(what string, now int, on func(*paxos.Peer) ([]api.Message, api.Errno), does func()) {
	r.t.Helper()
	got, err := on(r.peer)
	want, wantErr := r.plain.call(now, does)
	if err != wantErr || !equal(got, want) {
		r.t.Errorf("%s at %d: %d, %swant %d, %s", what, now, err, show(got), wantErr, show(want))
	}
	r.last = what
}

func (r *rowOf) stand(now int) {
	r.t.Helper()
	r.both("Stand", now, func(p *paxos.Peer) ([]api.Message, api.Errno) { return p.Stand(now) }, r.plain.stand)
}

func (r *rowOf) pass(now int) {
	r.t.Helper()
	r.both("Pass", now, func(p *paxos.Peer) ([]api.Message, api.Errno) { return p.Pass(now) }, r.plain.pass)
}

func (r *rowOf) tend(now int) {
	r.t.Helper()
	r.both("Tend", now, func(p *paxos.Peer) ([]api.Message, api.Errno) { return p.Tend(now) }, r.plain.tend)
}

func (r *rowOf) handle(now int, m api.Message) {
	r.t.Helper()
	r.both(fmt.Sprintf("Handle(%s)", show([]api.Message{m})), now, func(p *paxos.Peer) ([]api.Message, api.Errno) { return p.Handle(now, m) }, func() { r.plain.handle(m) })
}

// wantAlike holds all that the peer tells, and sends again, and its store, against the plain one's.
func (r *rowOf) wantAlike() {
	r.t.Helper()
	q := r.plain
	wantTold(r.t, r.last, r.peer, told{q.role == "leads", q.a.Promised(), q.a.Done(), q.a.State()})
	last := r.last
	r.tend(0)
	r.last = last
	if r.s.Off() != r.twin.Off() || r.s.Pending() != r.twin.Pending() || r.s.Writes() != r.twin.Writes() {
		r.t.Errorf("%s: the store: %v, %d, %d; want %v, %d, %d", last, r.s.Off(), r.s.Pending(), r.s.Writes(), r.twin.Off(), r.twin.Pending(), r.twin.Writes())
	}
}

// wantAlikeSectors holds the store against the plain one's, sector by sector.
func (r *rowOf) wantAlikeSectors() {
	r.t.Helper()
	if !slices.EqualFunc(r.s.Image(), r.twin.Image(), bytes.Equal) {
		r.t.Errorf("%s: the sectors aren't as they should be", r.last)
	}
}

// begin lays two stores with the same records, and begins both, till they are such as may be.
func (r *rowOf) begin() {
	r.t.Helper()
	for r.peer == nil && !r.t.Failed() {
		r.lay()
		r.start()
	}
}

// lay lays two stores with the same records.
func (r *rowOf) lay() {
	r.t.Helper()
	promised, done := r.rnd.Intn(9), r.rnd.Intn(4)
	var pending api.Accepted
	if promised > 0 && r.rnd.Intn(3) == 0 {
		pending = api.Accepted{Ballot: 1 + r.rnd.Intn(promised), Value: r.value()}
		if pending.Value == "" || len(pending.Value) > 100 {
			pending.Value = "v"
		}
	}
	switch r.rnd.Intn(24) {
	case 0:
		promised = maxCount - r.rnd.Intn(9)
	case 1:
		done = maxCount - r.rnd.Intn(3)
	}
	image := holding(r.t, recordsOf(promised, done, r.state(), pending)...).Image()
	r.s, r.twin = from(r.t, image), from(r.t, image)
}

// known is the state from which commands and states are made.
func (r *rowOf) known() api.State {
	if r.plain != nil {
		return stateOf(r.t, r.plain.a.State())
	}
	return stateOf(r.t, begin(r.t, r.stores))
}

// command is one near what is known.
func (r *rowOf) command() api.Command {
	server := r.rnd.Intn(3)
	m := r.known().Servers[server]
	boot, seq, gen := max(1, m.Boot), m.Seq+1, m.Gen
	switch r.rnd.Intn(9) {
	case 0:
		boot, seq = boot+1, 1
	case 1, 2:
		seq--
	case 3:
		boot, seq, gen = boot+r.rnd.Intn(3)-1, seq+r.rnd.Intn(3)-2, gen+r.rnd.Intn(2)
	}
	if m.Gen == 0 || r.rnd.Intn(12) == 0 {
		return mountOf(server, boot, seq)
	}
	return one(r.rnd, renewOf(server, boot, seq, gen), lockOf(server, boot, seq, gen, r.rnd.Intn(19), api.Mode(1+r.rnd.Intn(2))),
		chainOf(server, boot, seq, gen, r.rnd.Perm(r.stores)...))
}

// state is the bytes of a state, mostly.
func (r *rowOf) state() string {
	x := r.known()
	if r.rnd.Intn(12) == 0 {
		s := textOf(r.t, x)
		return one(r.rnd, s, s+"\x00", s[1:])
	}
	for range r.rnd.Intn(3) {
		x, _ = service.Apply(x, r.command())
	}
	if r.rnd.Intn(40) == 0 {
		x.Time = maxTime - r.rnd.Intn(100)
	}
	return textOf(r.t, x)
}

// value is a text that may stand in a message as one.
func (r *rowOf) value() string {
	switch r.rnd.Intn(12) {
	case 0, 1:
		return mixed(one(r.rnd, 0, 1, 2, 100, 101, 1000), r.rnd.Intn(3))
	case 2, 3, 4:
		s, _ := service.EncodeCommand(passOf(one(r.rnd, 1, 1+r.rnd.Intn(30), maxPass)))
		return s
	}
	s, _ := service.EncodeCommand(after(r.rnd.Intn(9), r.command()))
	return s
}

// near is a number near another one, seldom far off.
func (r *rowOf) near(n int) int {
	switch r.rnd.Intn(30) {
	case 0:
		return one(r.rnd, math.MinInt, -1, 0, 1, n-1<<32)
	case 1:
		return n + one(r.rnd, -2, -1, 2, 2, 300)
	case 2, 3, 4:
		return n + one(r.rnd, -1, 1)
	}
	if r.rnd.Intn(900) == 0 {
		return one(r.rnd, maxCount-1, maxCount, maxCount+1, math.MaxInt, n+1<<32)
	}
	return n
}

// kind is one that is mostly heard in the plain one's role.
func (r *rowOf) kind() api.MsgKind {
	all := []api.MsgKind{mPrepare, mPromise, mPropose, mAccepted, mLearn, mNack, mRequest}
	switch r.plain.role {
	case "stands":
		all = append(all, mPromise, mPromise, mPromise, mPromise, mPromise, mPromise)
	case "leads":
		all = append(all, mAccepted, mAccepted, mAccepted, mAccepted, mAccepted, mRequest, mRequest, mRequest, mRequest, mNack)
	case "follows":
		all = append(all, mPrepare, mPropose, mPropose)
	}
	return one(r.rnd, all...)
}

// message is one near what the plain one knows.
func (r *rowOf) message() api.Message {
	q := r.plain
	m := api.Message{Kind: r.kind(), To: r.id, From: (r.id + 1 + r.rnd.Intn(max(1, r.n-1))) % r.n, Ballot: r.near(q.own), Slot: r.near(q.next())}
	switch m.Kind {
	case mPrepare, mPropose:
		m.Ballot = r.near(one(r.rnd, q.own, q.a.Promised(), q.a.Promised(), q.a.Promised()+1, q.a.Promised()+2))
		m.Accepted = api.Accepted{Ballot: m.Ballot, Value: one(r.rnd, r.value(), r.value(), q.a.Pending().Value)}
	case mPromise:
		m.State = r.state()
		m.Accepted = one(r.rnd, none, api.Accepted{Ballot: r.near(one(r.rnd, 1, q.best.Ballot, q.best.Ballot+1)), Value: r.value()})
		if m.Slot = r.near(one(r.rnd, q.next(), q.next(), q.next()+1)); m.Slot > q.next() && r.n == 3 && r.rnd.Intn(9) == 0 {
			m.State = mixed(r.rnd.Intn(1200), 1)
		}
	case mLearn:
		m.State = r.state()
	case mRequest:
		m.Command = r.command()
		m.From = 8 + m.Command.Server
		if r.rnd.Intn(9) == 0 {
			m.From, m.Command = r.near(m.From), one(r.rnd, m.Command, after(1, m.Command), passOf(1), mountOf(m.Command.Server, 0, 1))
		}
	}
	switch r.rnd.Intn(150) {
	case 0:
		m.Kind = api.MsgKind(r.rnd.Intn(12) - 1)
	case 1:
		m.From = one(r.rnd, -1, 0, 1, 2, 3, 7, 8, 9, 10, 11)
	case 2:
		m.To = one(r.rnd, -1, 0, 1, 2, 8)
	}
	return m
}

// moment is one near the mark.
func (r *rowOf) moment() int {
	if r.rnd.Intn(100) == 0 {
		return one(r.rnd, -1, 0, maxTime, maxTime+1, math.MinInt, math.MaxInt)
	}
	r.now = max(0, r.plain.mark+one(r.rnd, -3, -1, 0, 1, 1, 5, 5, 70, maxPass-1, maxPass, maxPass+1, maxPass+99))
	if r.rnd.Intn(3) > 0 {
		r.now = r.plain.mark + r.rnd.Intn(9)
	}
	r.now = min(r.now, maxTime)
	return r.now
}

// play does one thing to both.
func (r *rowOf) play() {
	r.t.Helper()
	switch r.rnd.Intn(100) {
	case 0:
		k := r.rnd.Intn(60) - 1
		r.s.Arm(k)
		r.twin.Arm(k)
	case 1:
		r.s.Fail()
		r.twin.Fail()
	case 2, 3, 4, 5, 6, 7:
		keep, torn := r.rnd.Intn(30)-1, r.rnd.Intn(2) == 0
		if off := r.s.Off(); r.s.Revive(keep, torn) != r.twin.Revive(keep, torn) || off {
			r.start()
		}
	case 8:
		r.start()
	case 9, 10, 11, 12, 13, 14, 15, 16:
		r.pass(r.moment())
	case 17, 18:
		r.tend(r.moment())
	case 19:
		r.stand(r.moment())
	case 20, 21, 22, 23, 24, 25, 26, 27, 28, 29, 30, 31:
		if r.plain.role == "follows" {
			r.stand(r.moment())
		}
	default:
		r.handle(r.moment(), r.message())
	}
}

// row is a new one.
func row(t *testing.T, seed int64, ways map[string]int) *rowOf {
	n := int(seed)%3 + 1
	return &rowOf{t: t, rnd: rand.New(rand.NewSource(seed)), n: n, id: int(seed) / 3 % n, stores: 1 + int(seed)/9%3, now: 100, ways: ways}
}

// waysOf are those that rows of n peers have to go often.
func waysOf(n int) []string {
	all := []string{"ErrKind", "no ballot", "error 13", "error 19", "error 20", "stands, pending false", "stands, pending true", "leads with a best", "leads without a best",
		"passes, the most false", "passes, the most true", "decided: a command false, kind 0", "decided: a command true, kind 8", "decided: answered 0", "decided: answered 27",
		"MsgRequest: known, under way false", "MsgRequest: nothing, leads false", "MsgRequest: nothing, leads true", "MsgRequest: stale true",
		"MsgRequest: proposed, at the mark false, the most false", "MsgRequest: proposed, at the mark false, the most true", "MsgRequest: proposed, at the mark true, the most false"}
	if n == 1 {
		return all
	}
	all = append(all, "error 2", "decided: not answered, for 18", "MsgRequest: known, under way true", "MsgRequest: stale false", "MsgPrepare: low", "MsgPromise: a better one, behind one false", "MsgPromise: a better one, behind one true",
		"MsgPromise: learned", "MsgPromise: no state", "MsgPromise: stands, the own ballot false", "MsgPromise: leads, the own ballot true", "MsgPromise: follows, the own ballot true",
		"MsgPropose: done", "MsgPropose: low false", "MsgPropose: low true", "MsgLearn: done true, above all false", "MsgLearn: done false, above all true",
		"MsgLearn: learned, follows", "MsgLearn: learned, stands", "MsgLearn: learned, leads",
		"MsgAccepted: leads, under way false, the own ballot true, the next slot true", "MsgAccepted: leads, under way true, the own ballot false, the next slot true",
		"MsgAccepted: leads, under way true, the own ballot true, the next slot false", "MsgAccepted: follows, under way true, the own ballot true, the next slot true", "MsgAccepted: stands, under way true, the own ballot true, the next slot true",
		"MsgNack: leads, above the own false, done false", "MsgNack: leads, above the own false, done true", "MsgNack: leads, above the own true, done false", "MsgNack: stands, above the own true, done false", "MsgNack: stands, above the own false, done true")
	for _, role := range []string{"follows", "stands", "leads"} {
		for _, above := range []bool{true, false} {
			all = append(all, fmt.Sprintf("MsgPrepare: %s, above the own %v, below the next slot false, pending true", role, above),
				fmt.Sprintf("MsgPropose: %s, above the own %v, Accept 0", role, above),
				fmt.Sprintf("MsgPropose: %s, above the own %v, Accept 2", role, above))
		}
	}
	return all
}

// wantWays wants these ways to have been gone often.
func wantWays(t *testing.T, ways map[string]int) {
	t.Helper()
	for n := 1; n <= 3; n++ {
		for _, way := range waysOf(n) {
			if key := fmt.Sprintf("%d: %s", n, way); ways[key] < 5 {
				t.Errorf("%q: %d times", key, ways[key])
			}
		}
	}
}

// P12.1 to P12.4: long rows of all calls, with any messages, and with a power that fails and comes back, against the plain peer: what is answered, told, sent again and written.
func TestRows(t *testing.T) {
	ways := map[string]int{}
	for seed := range int64(240) {
		r := row(t, seed, ways)
		r.begin()
		r.wantAlike()
		for step := 0; step < 400 && !t.Failed(); step++ {
			r.play()
			r.wantAlike()
			if step%10 == 0 {
				r.wantAlikeSectors()
			}
		}
		if t.Failed() {
			t.Fatalf("seed %d", seed)
		}
	}
	wantWays(t, ways)
}
