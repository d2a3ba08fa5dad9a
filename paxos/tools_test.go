package paxos_test

import (
	"encoding/binary"
	"fmt"
	"math"
	"reflect"
	"strings"
	"testing"

	"lagoon/api"
	"lagoon/journal"
	"lagoon/paxos"
	"lagoon/service"
	"lagoon/store"
)

// The numbers, as the document tells them.
const (
	need     = 122
	area     = 60
	maxTime  = 1 << 52
	maxCount = 1 << 40
	maxPass  = 1 << 20

	ok        api.Errno = 0
	errNil    api.Errno = 1
	errRange  api.Errno = 2
	errSpace  api.Errno = 12
	errPower  api.Errno = 13
	errRecord api.Errno = 14
	errWorn   api.Errno = 15
	errKind   api.Errno = 19
	errBallot api.Errno = 20
	errStale  api.Errno = 25

	kMount api.CmdKind = 1
	kRenew api.CmdKind = 2
	kLock  api.CmdKind = 3
	kChain api.CmdKind = 7
	kPass  api.CmdKind = 8

	mPrepare  api.MsgKind = 1
	mPromise  api.MsgKind = 2
	mPropose  api.MsgKind = 3
	mAccepted api.MsgKind = 4
	mLearn    api.MsgKind = 5
	mNack     api.MsgKind = 7
	mRequest  api.MsgKind = 8
	mAnswer   api.MsgKind = 9
)

// none is what is accepted, where nothing is.
var none = api.Accepted{}

// badTimes are numbers that are no times, goodTimes such as are.
var (
	badTimes  = []int{math.MinInt, -1 << 52, -2, -1, maxTime + 1, maxTime + 2, 1 << 53, math.MaxInt}
	goodTimes = []int{0, 1, 2, 1 << 20, 1 << 32, maxTime - 1, maxTime}
)

// mixed is a text of n bytes that hangs on x; it is neither a state nor a command.
func mixed(n, x int) string {
	b := make([]byte, n)
	for i := range b {
		b[i] = byte(x*31 + i*7)
	}
	return string(b)
}

// number is a number's form, as chapter 1 has it.
func number(n int) string {
	return string(binary.AppendUvarint(nil, uint64(n)))
}

// The acceptor's records, as chapter 11 has them.
func promiseOf(ballot int) string { return number(1) + number(ballot) }
func acceptOf(ballot int, value string) string {
	return number(2) + number(ballot) + number(len(value)) + value
}
func learnOf(slot int, state string) string {
	return number(3) + number(slot) + number(len(state)) + state
}

// recordsOf are those that make something known: none of it of a part that is 0.
func recordsOf(promised, done int, state string, pending api.Accepted) []string {
	var l []string
	if done > 0 {
		l = append(l, learnOf(done, state))
	}
	if pending.Ballot > 0 {
		l = append(l, acceptOf(pending.Ballot, pending.Value))
	}
	if promised > 0 {
		l = append(l, promiseOf(promised))
	}
	return l
}

// blank is so many sectors of zeros.
func blank(n int) [][]byte {
	image := make([][]byte, n)
	for i := range image {
		image[i] = make([]byte, 64)
	}
	return image
}

// from is a store of these sectors.
func from(t *testing.T, image [][]byte) *store.Store {
	t.Helper()
	s, err := store.From(image)
	if s == nil || err != ok {
		t.Fatalf("store.From of %d sectors: %d", len(image), err)
	}
	return s
}

// holding is a store with these records in its journal. Its writes are counted from 0 on.
func holding(t *testing.T, records ...string) *store.Store {
	t.Helper()
	s := from(t, blank(need))
	j, _, err := journal.Open(s)
	if err != ok {
		t.Fatalf("journal.Open: %d", err)
	}
	for _, r := range records {
		if err := j.Append([]byte(r)); err != ok {
			t.Fatalf("the journal's Append: %d", err)
		}
	}
	return from(t, s.Image())
}

// Commands, by what they use.
func mountOf(server, boot, seq int) api.Command {
	return api.Command{Kind: kMount, Server: server, Boot: boot, Seq: seq}
}

func renewOf(server, boot, seq, gen int) api.Command {
	return api.Command{Kind: kRenew, Server: server, Boot: boot, Seq: seq, Gen: gen}
}

func lockOf(server, boot, seq, gen, lock int, mode api.Mode) api.Command {
	return api.Command{Kind: kLock, Server: server, Boot: boot, Seq: seq, Gen: gen, Lock: lock, Mode: mode}
}

func chainOf(server, boot, seq, gen int, members ...int) api.Command {
	return api.Command{Kind: kChain, Server: server, Boot: boot, Seq: seq, Gen: gen, Members: members}
}

func passOf(d int) api.Command {
	return api.Command{Kind: kPass, D: d}
}

// after is a command ahead of which so much time passes.
func after(d int, c api.Command) api.Command {
	c.D = d
	return c
}

// valueOf is a command's bytes.
func valueOf(t *testing.T, c api.Command) string {
	t.Helper()
	s, err := service.EncodeCommand(c)
	if err != ok {
		t.Fatalf("EncodeCommand(%+v): %d", c, err)
	}
	return s
}

// textOf is a state's bytes.
func textOf(t *testing.T, x api.State) string {
	t.Helper()
	s, err := service.Encode(x)
	if err != ok {
		t.Fatalf("Encode: %d", err)
	}
	return s
}

// stateOf is the state of these bytes.
func stateOf(t *testing.T, s string) api.State {
	t.Helper()
	x, err := service.Decode(s)
	if err != ok {
		t.Fatalf("Decode: %d", err)
	}
	return x
}

// begin is the bytes of the state at the start.
func begin(t *testing.T, stores int) string {
	t.Helper()
	x, err := service.Start(stores)
	if err != ok {
		t.Fatalf("service.Start: %d", err)
	}
	return textOf(t, x)
}

// behind is the bytes of the state behind commands, and the last one's view.
func behind(t *testing.T, state string, commands ...api.Command) (string, api.View) {
	t.Helper()
	x, v := stateOf(t, state), api.View{}
	for _, c := range commands {
		x, v = service.Apply(x, c)
	}
	return textOf(t, x), v
}

// some are the bytes of a state that knows 0 1 3, 1 4 1 and nothing of server 2, at 1000.
func some(t *testing.T) string {
	t.Helper()
	s, v := behind(t, begin(t, 3), passOf(1000), mountOf(0, 1, 1), chainOf(0, 1, 2, 1, 2, 0), mountOf(1, 4, 1), lockOf(0, 1, 3, 1, 4, 2))
	if v.Code != ok || len(v.Holds) != 1 {
		t.Fatalf("CmdLock: %+v", v)
	}
	return s
}

// lists does something with each list of something.
type lists struct {
	ints  func(*[]int)
	holds func(*[]api.Hold)
	deads func(*[]api.Dead)
}

func (f lists) ofView(v *api.View) {
	f.ints(&v.Config.Members)
	f.ints(&v.Config.Since)
	f.holds(&v.Holds)
	f.deads(&v.Dead)
}

func (f lists) ofMessage(m *api.Message) {
	f.ints(&m.Command.Members)
	f.ofView(&m.View)
}

func (f lists) ofState(x *api.State) {
	f.ints(&x.Config.Members)
	f.ints(&x.Config.Since)
	for i := range x.Servers {
		f.ofView(&x.Servers[i].Answer)
	}
	for lock := range x.Queues {
		f.holds(&x.Queues[lock])
	}
}

// copyList makes a list one of new memory; no list, if it is empty: these two are one.
func copyList[T any](l *[]T) {
	*l = append([]T(nil), *l...)
}

func copying() lists {
	return lists{copyList[int], copyList[api.Hold], copyList[api.Dead]}
}

// cloned are messages that share no list with others.
func cloned(l []api.Message) []api.Message {
	l = append([]api.Message(nil), l...)
	for i := range l {
		copying().ofMessage(&l[i])
	}
	return l
}

// equal tells whether two rows of messages are one, nil and the empty list too.
func equal(l, k []api.Message) bool {
	return reflect.DeepEqual(cloned(l), cloned(k))
}

// equalStates tells whether two states are one, nil and the empty list too.
func equalStates(x, y api.State) bool {
	copying().ofState(&x)
	copying().ofState(&y)
	return reflect.DeepEqual(x, y)
}

// show is messages as a text, with long texts cut off.
func show(l []api.Message) string {
	var b strings.Builder
	for _, m := range l {
		state, value := m.State, m.Accepted.Value
		m.State, m.Accepted.Value = "", ""
		fmt.Fprintf(&b, "\n\t%+v, a value %q of %d bytes, a state %x of %d", m, value[:min(len(value), 40)], len(value), state[:min(len(state), 12)], len(state))
	}
	return b.String() + "\n"
}

// told is all that a peer tells.
type told struct {
	leads        bool
	ballot, done int
	state        string
}

// tells is what it is.
func tells(t *testing.T, p *paxos.Peer) told {
	t.Helper()
	return told{p.Leads(), p.Ballot(), p.Done(), textOf(t, p.State())}
}

// wantTold holds what a peer tells against what it should.
func wantTold(t *testing.T, what string, p *paxos.Peer, want told) {
	t.Helper()
	is := tells(t, p)
	if is != want {
		t.Errorf("%s: it tells %v, %d, %d; want %v, %d, %d; its state is the one: %v", what, is.leads, is.ballot, is.done, want.leads, want.ballot, want.done, is.state == want.state)
	}
}

// wantOut holds the messages that a call answered against those that should be.
func wantOut(t *testing.T, what string, got []api.Message, err api.Errno, want ...api.Message) {
	t.Helper()
	if err != ok || !equal(got, want) {
		t.Errorf("%s: %d, %swant%s", what, err, show(got), show(want))
	}
}

// wantErr wants a call to have answered an error, and no messages beside it (R3).
func wantErr(t *testing.T, what string, got []api.Message, err, want api.Errno) {
	t.Helper()
	if err != want || len(got) > 0 {
		t.Errorf("%s: %d, %swant %d", what, err, show(got), want)
	}
}

// rig is a peer and its store, and what messages are made of.
type rig struct {
	t     *testing.T
	p     *paxos.Peer
	s     *store.Store
	id, n int
}

// started is a peer of n, begun at 100 over three storage nodes on a store with these records.
func started(t *testing.T, id, n int, records ...string) *rig {
	t.Helper()
	r := &rig{t: t, s: holding(t, records...), id: id, n: n}
	r.start(100)
	return r
}

// start begins the peer, again, on its store.
func (r *rig) start(now int) {
	r.t.Helper()
	p, err := paxos.Start(r.id, r.n, 3, r.s, now)
	if p == nil || err != ok {
		r.t.Fatalf("Start: %v, %d", p, err)
	}
	r.p = p
}

// in is a message to the peer.
func (r *rig) in(m api.Message) api.Message {
	m.To = r.id
	return m
}

// hear hands a message to the peer.
func (r *rig) hear(now int, m api.Message) ([]api.Message, api.Errno) {
	return r.p.Handle(now, r.in(m))
}

// wantHeard holds what is answered to a message against what should be.
func (r *rig) wantHeard(what string, now int, m api.Message, want ...api.Message) {
	r.t.Helper()
	out, err := r.hear(now, m)
	wantOut(r.t, what, out, err, r.out(want...)...)
}

// out are messages from the peer.
func (r *rig) out(l ...api.Message) []api.Message {
	l = append([]api.Message(nil), l...)
	for i := range l {
		l[i].From = r.id
	}
	return l
}

// others are the same message to all other peers.
func (r *rig) others(m api.Message) []api.Message {
	var l []api.Message
	for to := range r.n {
		if m.To = to; to != r.id {
			l = append(l, m)
		}
	}
	return l
}

// tend is what goes out again.
func (r *rig) tend() []api.Message {
	r.t.Helper()
	out, err := r.p.Tend(0)
	if err != ok {
		r.t.Errorf("Tend: %d", err)
	}
	return out
}

// wantTend holds what goes out again against what should.
func (r *rig) wantTend(what string, want ...api.Message) {
	r.t.Helper()
	out, err := r.p.Tend(7)
	wantOut(r.t, what+", then Tend", out, err, r.out(want...)...)
}

// wantTold holds what the peer tells against what it should.
func (r *rig) wantTold(what string, leads bool, ballot, done int, state string) {
	r.t.Helper()
	wantTold(r.t, what, r.p, told{leads, ballot, done, state})
}

// wantUnchanged wants a call to answer this error, and no messages, to write nothing, and to change nothing that is told or sent again.
func (r *rig) wantUnchanged(what string, want api.Errno, call func() ([]api.Message, api.Errno)) {
	r.t.Helper()
	was, sent, writes := tells(r.t, r.p), r.tend(), r.s.Writes()
	out, err := call()
	wantErr(r.t, what, out, err, want)
	wantTold(r.t, what, r.p, was)
	if again := r.tend(); !equal(again, sent) {
		r.t.Errorf("%s, then Tend: %swant%s", what, show(again), show(sent))
	}
	if r.s.Writes() != writes {
		r.t.Errorf("%s writes", what)
	}
}

// wantUnheard wants a message to be answered by nothing, and to change nothing.
func (r *rig) wantUnheard(what string, m api.Message) {
	r.t.Helper()
	r.wantUnchanged(what, ok, func() ([]api.Message, api.Errno) { return r.hear(150, m) })
}

// stand lets the peer stand, and answers its ballot.
func (r *rig) stand(now int) int {
	r.t.Helper()
	if _, err := r.p.Stand(now); err != ok {
		r.t.Fatalf("Stand: %d", err)
	}
	return r.p.Ballot()
}

// lead lets the peer lead by the votes of peers that have nothing pending, and answers its ballot. There are others.
func (r *rig) lead(now int) int {
	r.t.Helper()
	ballot := r.stand(now)
	other := (r.id + 1) % r.n
	if _, err := r.hear(now, api.Message{Kind: mPromise, From: other, Ballot: ballot, Slot: r.p.Done() + 1}); err != ok || !r.p.Leads() {
		r.t.Fatalf("MsgPromise: %d, leads %v", err, r.p.Leads())
	}
	return ballot
}

// request is a server's message.
func request(c api.Command) api.Message {
	return api.Message{Kind: mRequest, From: 8 + c.Server, Command: c}
}

// answer is the message with which a server is answered.
func answer(c api.Command, v api.View) api.Message {
	return api.Message{Kind: mAnswer, To: 8 + c.Server, Command: c, View: v}
}
