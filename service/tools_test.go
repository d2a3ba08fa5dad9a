package service_test

import (
	"fmt"
	"math/rand"
	"reflect"
	"strings"
	"testing"

	"lagoon/api"
	"lagoon/locks"
	"lagoon/service"
)

// lists does something with each list of something.
type lists struct {
	ints  func(*[]int)
	holds func(*[]api.Hold)
	deads func(*[]api.Dead)
}

func (f lists) ofConfig(x *api.Config) {
	f.ints(&x.Members)
	f.ints(&x.Since)
}

func (f lists) ofView(v *api.View) {
	f.ofConfig(&v.Config)
	f.holds(&v.Holds)
	f.deads(&v.Dead)
}

func (f lists) ofState(x *api.State) {
	f.ofConfig(&x.Config)
	for i := range x.Servers {
		f.ofView(&x.Servers[i].Answer)
	}
	for lock := range x.Queues {
		f.holds(&x.Queues[lock])
	}
}

// copyList makes a list one of new memory; no list, if it is empty: these two are one.
func copyList[T any](l *[]T) {
	*l = append([]T(nil), *l...)
}

func copying() lists {
	return lists{copyList[int], copyList[api.Hold], copyList[api.Dead]}
}

// clone is a state that shares no list with another one.
func clone(x api.State) api.State {
	copying().ofState(&x)
	return x
}

// cloneView is a view that shares no list with another one.
func cloneView(v api.View) api.View {
	copying().ofView(&v)
	return v
}

// cloneCommand is a command that shares no list with another one.
func cloneCommand(c api.Command) api.Command {
	copyList(&c.Members)
	return c
}

// equal tells whether two states are one, nil and the empty list too.
func equal(x, y api.State) bool {
	return reflect.DeepEqual(clone(x), clone(y))
}

// equalViews tells whether two views are one, nil and the empty list too.
func equalViews(v, w api.View) bool {
	return reflect.DeepEqual(cloneView(v), cloneView(w))
}

// equalCommands tells whether two commands are one, nil and the empty list too.
func equalCommands(c, d api.Command) bool {
	return reflect.DeepEqual(cloneCommand(c), cloneCommand(d))
}

// show is a state as a text: of the locks those that aren't free.
func show(x api.State) string {
	text := fmt.Sprintf("stores %d, time %d, config %v", x.Stores, x.Time, x.Config)
	for i, m := range x.Servers {
		text += fmt.Sprintf("\n\t%d: %+v", i, m)
	}
	for lock, held := range x.Holders {
		if held != [nServers]api.Mode{} || len(x.Queues[lock]) > 0 {
			text += fmt.Sprintf("\n\tlock %d: %v, %v", lock, held, x.Queues[lock])
		}
	}
	return text
}

// wantState holds a state against the one that should be.
func wantState(t *testing.T, what string, got, want api.State) {
	t.Helper()
	if !equal(got, want) {
		t.Errorf("%s: the state is %s\n\twant %s", what, show(got), show(want))
	}
}

// wantView holds a view against the one that should be.
func wantView(t *testing.T, what string, got, want api.View) {
	t.Helper()
	if !equalViews(got, want) {
		t.Errorf("%s: the view is %+v; want %+v", what, got, want)
	}
}

// wantApply holds what Apply answers against what it should, and what was handed in against what it was.
func wantApply(t *testing.T, what string, x api.State, c api.Command, want api.State, view api.View) api.State {
	t.Helper()
	wasState, wasCommand := clone(x), cloneCommand(c)
	what = fmt.Sprintf("%s: Apply(%+v)", what, c)
	y, v := service.Apply(x, c)
	wantState(t, what, y, want)
	wantView(t, what, v, view)
	if !equal(x, wasState) || !equalCommands(c, wasCommand) {
		t.Errorf("%s changes what it is handed", what)
	}
	return y
}

// wantError wants a command to answer an error alone: the state is as it was (R4).
func wantError(t *testing.T, what string, x api.State, c api.Command, err api.Errno) {
	t.Helper()
	wantApply(t, what, x, c, x, api.View{Code: err})
}

// wantDone wants a new command to be done: time passes by its D, then it does something with the state, and with the Code the view is the answer, which is kept.
func wantDone(t *testing.T, what string, x api.State, c api.Command, code api.Errno, does func(*api.State)) api.State {
	t.Helper()
	want := clone(x)
	want.Time += c.D
	does(&want)
	v := plainView(want, c.Server, code)
	m := &want.Servers[c.Server]
	m.Boot, m.Seq, m.Answer = c.Boot, c.Seq, v
	y := wantApply(t, what, x, c, want, v)
	again, view := service.Apply(y, c)
	wantState(t, what+", again", again, want)
	wantView(t, what+", again", view, v)
	if plain, plainView := plainApply(x, c); !equal(plain, want) || !equalViews(plainView, v) {
		t.Errorf("%s: the plain one answers otherwise: %s", what, show(plain))
	}
	return y
}

// nothing is what a command does that is refused, but by its answer.
func nothing(*api.State) {}

// edited is a state that something was done with.
func edited(x api.State, do func(*api.State)) api.State {
	x = clone(x)
	do(&x)
	return x
}

// run applies commands, one after the other, and wants each to answer OK.
func run(t *testing.T, x api.State, commands ...api.Command) api.State {
	t.Helper()
	for _, c := range commands {
		y, v := service.Apply(x, c)
		if v.Code != ok {
			t.Fatalf("Apply(%+v): %d", c, v.Code)
		}
		x = y
	}
	return x
}

// begin is a new service.
func begin(t *testing.T, stores int) api.State {
	t.Helper()
	x, err := service.Start(stores)
	if err != ok {
		t.Fatalf("Start(%d): %d", stores, err)
	}
	return x
}

// Commands, by what they use.
func mountOf(server, boot, seq int) api.Command {
	return api.Command{Kind: kMount, Server: server, Boot: boot, Seq: seq}
}

func renewOf(server, boot, seq, gen int) api.Command {
	return api.Command{Kind: kRenew, Server: server, Boot: boot, Seq: seq, Gen: gen}
}

func lockOf(server, boot, seq, gen, lock int, mode api.Mode) api.Command {
	return api.Command{Kind: kLock, Server: server, Boot: boot, Seq: seq, Gen: gen, Lock: lock, Mode: mode}
}

func unlockOf(server, boot, seq, gen, lock int) api.Command {
	return api.Command{Kind: kUnlock, Server: server, Boot: boot, Seq: seq, Gen: gen, Lock: lock}
}

func helpOf(server, boot, seq, gen, other int) api.Command {
	return api.Command{Kind: kHelp, Server: server, Boot: boot, Seq: seq, Gen: gen, Other: other}
}

func doneOf(server, boot, seq, gen, other int) api.Command {
	return api.Command{Kind: kDone, Server: server, Boot: boot, Seq: seq, Gen: gen, Other: other}
}

func chainOf(server, boot, seq, gen int, members ...int) api.Command {
	return api.Command{Kind: kChain, Server: server, Boot: boot, Seq: seq, Gen: gen, Members: members}
}

func passOf(d int) api.Command {
	return api.Command{Kind: kPass, D: d}
}

// after is a command ahead of which so much time passes.
func after(d int, c api.Command) api.Command {
	c.D = d
	return c
}

// full is a state that may be, all of whose lists have something in them: server 0 is Alive in generation 4, 1 is Gone in 2, and nobody helps it, 2 is Alive in 6. The next commands of theirs are 7 3, 5 9 and 1 2.
func full() api.State {
	x := api.State{Stores: 3, Time: 1000, Config: api.Config{Epoch: 5, Members: []int{2, 0, 1}, Since: []int{1, 3, 5}}}
	old := api.Config{Epoch: 4, Members: []int{2, 0}, Since: []int{1, 3}}
	x.Servers = [nServers]api.Member{
		{Status: alive, Gen: 4, Expiry: 1050, Helper: -1, Boot: 7, Seq: 2},
		{Status: gone, Gen: 2, Expiry: 960, Helper: -1, Boot: 5, Seq: 8},
		{Status: alive, Gen: 6, Expiry: 1000, Helper: -1, Boot: 1, Seq: 1},
	}
	for i := range x.Servers {
		x.Servers[i].Answer = api.View{Code: errHeld, Gen: 3, Config: old, Holds: []api.Hold{{Lock: 3, Mode: 1}, {Lock: 18, Mode: 2, Wanted: 1}}, Dead: []api.Dead{{Server: 1, Fence: 2, Helper: 0}, {Server: 2, Fence: 7, Helper: -1}}}
	}
	for _, a := range []struct {
		lock, server int
		mode         api.Mode
	}{{0, 1, sole}, {0, 0, sole}, {0, 2, shared}, {3, 0, shared}, {3, 2, shared}, {3, 1, sole}, {18, 2, sole}, {18, 1, shared}, {18, 0, shared}, {9, 1, shared}} {
		x, _ = locks.Ask(x, a.lock, a.server, a.mode)
	}
	return clone(x)
}

// oneOf is one of these.
func oneOf[T any](rnd *rand.Rand, things ...T) T {
	return things[rnd.Intn(len(things))]
}

// randomCount is a count from a least one on, a small one, or at the bound.
func randomCount(rnd *rand.Rand, least int) int {
	return oneOf(rnd, least, least+rnd.Intn(3), least+rnd.Intn(3), least+rnd.Intn(300), maxCount-rnd.Intn(2))
}

// randomConfig is one that may be of so many storage nodes.
func randomConfig(rnd *rand.Rand, stores int) api.Config {
	x := api.Config{Epoch: randomCount(rnd, 1), Members: rnd.Perm(stores)[:1+rnd.Intn(stores)]}
	for range x.Members {
		x.Since = append(x.Since, oneOf(rnd, 1, x.Epoch, 1+rnd.Intn(x.Epoch)))
	}
	return x
}

// randomView is one that may be a server's answer.
func randomView(rnd *rand.Rand, stores int) api.View {
	v := api.View{Code: api.Errno(rnd.Intn(100)), Gen: randomCount(rnd, 0)}
	if rnd.Intn(3) > 0 {
		v.Config = randomConfig(rnd, stores)
	}
	for range oneOf(rnd, 0, rnd.Intn(20), nLocks) {
		v.Holds = append(v.Holds, api.Hold{Lock: rnd.Intn(nLocks), Mode: api.Mode(rnd.Intn(3)), Wanted: api.Mode(rnd.Intn(3))})
	}
	for range rnd.Intn(4) {
		v.Dead = append(v.Dead, api.Dead{Server: rnd.Intn(3), Fence: oneOf(rnd, randomCount(rnd, 0), maxCount+1), Helper: rnd.Intn(4) - 1})
	}
	return v
}

// randomState is one that may be.
func randomState(rnd *rand.Rand) api.State {
	var x api.State
	for range rnd.Intn(80) {
		lock, server := oneOf(rnd, 0, 18, rnd.Intn(nLocks)), rnd.Intn(nServers)
		if rnd.Intn(4) == 0 {
			x, _ = locks.Free(x, lock, server)
		} else {
			x, _ = locks.Ask(x, lock, server, api.Mode(1+rnd.Intn(2)))
		}
	}
	x.Stores = 1 + rnd.Intn(3)
	x.Time = oneOf(rnd, 0, 1000+rnd.Intn(1000), 1000+rnd.Intn(1000), maxTime-rnd.Intn(200), maxTime)
	x.Config = randomConfig(rnd, x.Stores)
	for i := range x.Servers {
		expiry := oneOf(rnd, x.Time, x.Time+lease, x.Time+rnd.Intn(lease+1), x.Time-rnd.Intn(lease+1))
		x.Servers[i] = api.Member{Status: api.Status(rnd.Intn(3)), Gen: randomCount(rnd, 0), Expiry: max(expiry, 0), Helper: rnd.Intn(4) - 1, Boot: randomCount(rnd, 0), Seq: randomCount(rnd, 0), Answer: randomView(rnd, x.Stores)}
	}
	return clone(x)
}

// randomCommand is one that may be; to a state it is mostly a new one of a server, in its generation.
func randomCommand(rnd *rand.Rand, x api.State) api.Command {
	kind, server := api.CmdKind(1+rnd.Intn(8)), rnd.Intn(nServers)
	m := x.Servers[server]
	d := oneOf(rnd, 0, 0, 0, rnd.Intn(lease), lease, lease+1, rnd.Intn(maxPass+1))
	if kind == kPass {
		return passOf(oneOf(rnd, 1, 1+rnd.Intn(20), max(1, d)))
	}
	c := api.Command{Kind: kind, Server: server, Boot: m.Boot, Seq: m.Seq + 1, D: d}
	switch rnd.Intn(12) {
	case 0:
		c.Boot, c.Seq = m.Boot+1, 1
	case 1:
		c.Seq = m.Seq
	case 2:
		c.Boot, c.Seq = m.Boot+rnd.Intn(3)-1, m.Seq+rnd.Intn(5)-2
	}
	c.Boot, c.Seq = min(max(c.Boot, 1), maxCount), min(max(c.Seq, 1), maxCount)
	uses, _ := fieldsUsed(kind)
	for _, field := range []struct {
		name string
		set  func()
	}{
		{"Gen", func() { c.Gen = oneOf(rnd, m.Gen, m.Gen, m.Gen, m.Gen, max(m.Gen-1, 0), min(m.Gen+1, maxCount)) }},
		{"Lock", func() { c.Lock = oneOf(rnd, 0, 18, rnd.Intn(nLocks)) }},
		{"Mode", func() { c.Mode = api.Mode(1 + rnd.Intn(2)) }},
		{"Other", func() { c.Other = rnd.Intn(nServers) }},
		{"Members", func() {
			c.Members = oneOf(rnd, rnd.Perm(x.Stores)[:1+rnd.Intn(x.Stores)], rnd.Perm(3)[:1+rnd.Intn(3)], []int{rnd.Intn(3), rnd.Intn(3)}, []int{rnd.Intn(3), rnd.Intn(3), rnd.Intn(3)})
		}},
	} {
		if hasField(uses, field.name) {
			field.set()
		}
	}
	return c
}

// hasField tells whether this is one of the fields that a kind uses.
func hasField(uses, name string) bool {
	return strings.Contains(" "+uses+" ", " "+name+" ")
}
