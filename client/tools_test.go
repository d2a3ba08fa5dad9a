package client_test

import (
	"math"
	"reflect"
	"sort"
	"testing"

	"lagoon/api"
	"lagoon/client"
)

// The numbers, as the document tells them.
const (
	maxTime  = 1 << 52
	maxCount = 1 << 40
	retry    = 6

	ok       api.Errno = 0
	errNil   api.Errno = 1
	errRange api.Errno = 2
	errKind  api.Errno = 19
	errBusy  api.Errno = 26

	kMount  api.CmdKind = 1
	kRenew  api.CmdKind = 2
	kLock   api.CmdKind = 3
	kUnlock api.CmdKind = 4
	kHelp   api.CmdKind = 5
	kDone   api.CmdKind = 6
	kChain  api.CmdKind = 7
	kPass   api.CmdKind = 8

	mRequest api.MsgKind = 8
	mAnswer  api.MsgKind = 9
)

// badTimes are numbers that are no times.
var badTimes = []int{math.MinInt, math.MinInt + 1, -maxTime, -7, -1, maxTime + 1, maxTime + 2, maxTime + retry, 1 << 53, math.MaxInt - retry, math.MaxInt}

// Commands as a server asks for them: Server, Boot and Seq are the client's.
func mount() api.Command               { return api.Command{Kind: kMount} }
func renew(gen int) api.Command        { return api.Command{Kind: kRenew, Gen: gen} }
func unlock(gen, lock int) api.Command { return api.Command{Kind: kUnlock, Gen: gen, Lock: lock} }
func help(gen, other int) api.Command  { return api.Command{Kind: kHelp, Gen: gen, Other: other} }
func done(gen, other int) api.Command  { return api.Command{Kind: kDone, Gen: gen, Other: other} }
func lock(gen, lock int, mode api.Mode) api.Command {
	return api.Command{Kind: kLock, Gen: gen, Lock: lock, Mode: mode}
}
func members(gen int, l ...int) api.Command {
	return api.Command{Kind: kChain, Gen: gen, Members: l}
}

// numbered is a command with the numbers of a server's request.
func numbered(x api.Command, server, boot, seq int) api.Command {
	x.Server, x.Boot, x.Seq = server, boot, seq
	return x
}

// lists does something with each list of something.
type lists struct {
	ints  func(*[]int)
	holds func(*[]api.Hold)
	deads func(*[]api.Dead)
}

func (f lists) ofView(v *api.View) {
	f.ints(&v.Config.Members)
	f.ints(&v.Config.Since)
	f.holds(&v.Holds)
	f.deads(&v.Dead)
}

func (f lists) ofMessage(m *api.Message) {
	f.ints(&m.Command.Members)
	f.ofView(&m.View)
}

// copyList makes a list one of new memory; no list, if it is empty: these two are one.
func copyList[T any](l *[]T) {
	*l = append([]T(nil), *l...)
}

func copying() lists {
	return lists{copyList[int], copyList[api.Hold], copyList[api.Dead]}
}

// cloned are messages that share no list with others.
func cloned(l []api.Message) []api.Message {
	l = append([]api.Message(nil), l...)
	for i := range l {
		copying().ofMessage(&l[i])
	}
	return l
}

// equal tells whether two rows of messages are one, nil and the empty list too.
func equal(l, k []api.Message) bool {
	return reflect.DeepEqual(cloned(l), cloned(k))
}

// equalCommands tells whether two commands are one.
func equalCommands(x, y api.Command) bool {
	return equal([]api.Message{{Command: x}}, []api.Message{{Command: y}})
}

// equalViews tells whether two views are one.
func equalViews(v, w api.View) bool {
	return equal([]api.Message{{View: v}}, []api.Message{{View: w}})
}

// someView is a view with all its fields in use.
func someView() api.View {
	return api.View{
		Code:   27,
		Gen:    3,
		Config: api.Config{Epoch: 5, Members: []int{2, 0}, Since: []int{1, 5}},
		Holds:  []api.Hold{{Lock: 4, Mode: 2, Wanted: 1}, {Lock: 9, Mode: 1}},
		Dead:   []api.Dead{{Server: 2, Fence: 8, Helper: -1}},
	}
}

// rig is a client, and what it was made of.
type rig struct {
	*client.Client
	t                   *testing.T
	server, boot, peers int
}

// made is a new client.
func made(t *testing.T, server, boot, peers int) *rig {
	t.Helper()
	c, err := client.New(server, boot, peers)
	if c == nil || err != ok {
		t.Fatalf("New(%d, %d, %d): %v, %d", server, boot, peers, c, err)
	}
	return &rig{c, t, server, boot, peers}
}

// own is a command with the client's numbers and this Seq.
func (r *rig) own(x api.Command, seq int) api.Command {
	return numbered(x, r.server, r.boot, seq)
}

// request is the message with which a command goes to a peer.
func (r *rig) request(to int, x api.Command, seq int) api.Message {
	return api.Message{Kind: mRequest, From: 8 + r.server, To: to, Command: r.own(x, seq)}
}

// answer is a peer's to the request of a number: of its Command just the three numbers count.
func (r *rig) answer(from, seq int, v api.View) api.Message {
	return api.Message{Kind: mAnswer, From: from, To: 8 + r.server, Command: r.own(api.Command{}, seq), View: v}
}

// twin is a client that is as this one, and goes on apart from it.
func (r *rig) twin() *rig {
	c, x := *r.Client, *r
	x.Client = &c
	return &x
}

// told is all that a client tells, and what it would do.
type told struct {
	open   api.Command
	isOpen bool
	peer   int
	again  int // the moment from which on it sends again; -1, if there is none
	first  int // the moment that it answers beside a view; -1, if none is open
	next   int // the number of its next request; -1, if it has none
}

// tells is what it is, as copies of the client tell it.
func (r *rig) tells() told {
	x := told{peer: r.Peer(), again: -1, first: -1, next: -1}
	x.open, x.isOpen = r.Open()
	again := sort.Search(maxTime+1, func(now int) bool {
		out, _ := r.twin().Tend(now)
		return len(out) > 0
	})
	if again <= maxTime {
		x.again = again
	}
	c := r.twin()
	if _, first, is := c.Take(r.answer(0, x.open.Seq, api.View{})); is {
		x.first = first
	}
	if out, err := c.Ask(0, mount()); err == ok {
		x.next = out[0].Command.Seq
	}
	return x
}

// wantTold holds all that the client tells against what it should.
func (r *rig) wantTold(what string, want told) {
	r.t.Helper()
	is := r.tells()
	if !equalCommands(is.open, want.open) {
		r.t.Errorf("%s: open is %+v; want %+v", what, is.open, want.open)
	}
	is.open, want.open = api.Command{}, api.Command{}
	if !reflect.DeepEqual(is, want) {
		r.t.Errorf("%s: it tells %+v; want %+v", what, is, want)
	}
}

// wantIdle wants no request to be open.
func (r *rig) wantIdle(what string, peer, next int) {
	r.t.Helper()
	r.wantTold(what, told{peer: peer, again: -1, first: -1, next: next})
}

// wantOpen wants a request to be open that was sent at these moments; no next one is left behind the last number.
func (r *rig) wantOpen(what string, x api.Command, seq, peer, first, last int) {
	r.t.Helper()
	want := told{open: r.own(x, seq), isOpen: true, peer: peer, again: last + retry, first: first, next: seq + 1}
	if want.again > maxTime {
		want.again = -1
	}
	if seq == maxCount {
		want.next = -1
	}
	r.wantTold(what, want)
}

// wantOut holds the messages that a call answered against those that should be.
func (r *rig) wantOut(what string, got []api.Message, err api.Errno, want ...api.Message) {
	r.t.Helper()
	if err != ok || !equal(got, want) {
		r.t.Errorf("%s: %d, %+v; want %+v", what, err, got, want)
	}
}

// wantAsked asks, and wants the request to go to this peer with this number.
func (r *rig) wantAsked(now int, x api.Command, to, seq int) {
	r.t.Helper()
	out, err := r.Ask(now, x)
	r.wantOut("Ask", out, err, r.request(to, x, seq))
	r.wantOpen("Ask", x, seq, to, now, now)
}

// wantUnasked wants a call to answer this error, with no messages beside it, and to change nothing.
func (r *rig) wantUnasked(what string, now int, x api.Command, want api.Errno) {
	r.t.Helper()
	was := r.tells()
	out, err := r.Ask(now, x)
	if err != want || len(out) > 0 {
		r.t.Errorf("%s: Ask(%d, %+v): %d, %+v; want %d", what, now, x, err, out, want)
	}
	r.wantTold(what, was)
}

// wantTended tends, and wants these messages.
func (r *rig) wantTended(what string, now int, want ...api.Message) {
	r.t.Helper()
	out, err := r.Tend(now)
	r.wantOut(what, out, err, want...)
}

// wantUntended wants Tend to answer this error, or none, without messages, and to change nothing.
func (r *rig) wantUntended(what string, now int, want api.Errno) {
	r.t.Helper()
	was := r.tells()
	out, err := r.Tend(now)
	if err != want || len(out) > 0 {
		r.t.Errorf("%s: Tend(%d): %d, %+v; want %d", what, now, err, out, want)
	}
	r.wantTold(what, was)
}

// wantTaken wants an answer to be taken, with the moment at which its request was first sent; the peer is the one that it came from.
func (r *rig) wantTaken(what string, m api.Message, first int) {
	r.t.Helper()
	next := r.tells().next
	v, now, is := r.Take(m)
	if !is || now != first || !equalViews(v, m.View) {
		r.t.Errorf("%s: Take: %+v, %d, %v; want %+v, %d, true", what, v, now, is, m.View, first)
	}
	r.wantIdle(what, m.From, next)
}

// wantUntaken wants a message not to be taken, and to change nothing.
func (r *rig) wantUntaken(what string, m api.Message) {
	r.t.Helper()
	was := r.tells()
	v, now, is := r.Take(m)
	if is || now != 0 || !reflect.DeepEqual(v, api.View{}) {
		r.t.Errorf("%s: Take(%+v): %+v, %d, %v; want zero values", what, m, v, now, is)
	}
	r.wantTold(what, was)
}
