package paxos_test

import (
	"fmt"
	"math/rand"
	"slices"
	"testing"

	"lagoon/api"
	"lagoon/paxos"
	"lagoon/service"
	"lagoon/store"
)

// node is one of the peers that agree: its store, and, as long as it is up, the peer; and what it has told at last.
type node struct {
	store          *store.Store
	peer           *paxos.Peer
	now            int
	promised, done int
}

// asker is a server that asks the service, one request at a time.
type asker struct {
	boot, seq, gen int
	open           *api.Command
}

// said is an answer that has gone out, of a peer that had done so many slots.
type said struct {
	done    int
	command api.Command
}

// group is peers and servers, all that is under way between them, and all that was ever told.
type group struct {
	t        *testing.T
	rnd      *rand.Rand
	nodes    []*node
	askers   [3]asker
	bag      []api.Message
	habits   habits
	cut      int            // the peer to and from which nothing comes now, or none
	late     []api.Message  // what would have
	states   map[int]string // behind which slot which state
	knows    map[int][3][2]int
	values   map[int][]string
	leaders  map[int]int // with which ballot who has led
	answers  []said
	happened map[string]int
}

func newGroup(t *testing.T, seed int64, n int, happened map[string]int) *group {
	t.Helper()
	g := &group{t: t, rnd: rand.New(rand.NewSource(seed)), cut: -1, states: map[int]string{0: begin(t, 3)}, knows: map[int][3][2]int{}, values: map[int][]string{}, leaders: map[int]int{}, happened: happened}
	for range n {
		g.nodes = append(g.nodes, &node{store: holding(t)})
	}
	for id := range g.nodes {
		g.start(id)
	}
	for i := range g.askers {
		g.askers[i].boot = 1
	}
	return g
}

// start begins a peer, again, on its store.
func (g *group) start(id int) {
	g.t.Helper()
	x := g.nodes[id]
	p, err := paxos.Start(id, len(g.nodes), 3, x.store, x.now)
	if err != ok {
		g.t.Fatalf("Start of %d: %d", id, err)
	}
	x.peer = p
	if p.Leads() {
		g.t.Errorf("%d leads from its beginning on", id)
	}
	g.look(id)
}

// look takes down what a peer tells, and wants it to go together with all that was told (P12.5, P12.6).
func (g *group) look(id int) {
	g.t.Helper()
	x := g.nodes[id]
	ballot, done := x.peer.Ballot(), x.peer.Done()
	if ballot < x.promised || done < x.done {
		g.t.Errorf("%d forgets: from %d, %d to %d, %d", id, x.promised, x.done, ballot, done)
	}
	if x.peer.Leads() {
		if who, led := g.leaders[ballot]; led && who != id {
			g.t.Errorf("%d and %d lead with %d", id, who, ballot)
		}
		g.leaders[ballot] = id
	}
	state := textOf(g.t, x.peer.State())
	if was, known := g.states[done]; !known {
		g.took(done, state)
	} else if state != was {
		g.t.Errorf("%d has another state behind slot %d", id, done)
	}
	x.promised, x.done = ballot, done
}

// took takes a new state down: it is what a value that was proposed for its slot makes of the one ahead, and it knows all that was answered.
func (g *group) took(done int, state string) {
	g.t.Helper()
	g.states[done] = state
	var knows [3][2]int
	for i, m := range stateOf(g.t, state).Servers {
		knows[i] = [2]int{m.Boot, m.Seq}
	}
	g.knows[done] = knows
	g.happened["slots"]++
	for _, a := range g.answers {
		g.wantKept(a, done)
	}
	ahead, known := g.states[done-1]
	if !known || len(g.nodes) == 1 {
		return
	}
	for _, v := range g.values[done] {
		want := ahead
		if c, err := service.DecodeCommand(v); err == ok {
			want, _ = behind(g.t, ahead, c)
		}
		if want == state {
			return
		}
	}
	g.t.Errorf("the state behind slot %d is made by none of the values that were proposed: %q", done, g.values[done])
}

// wantKept wants a state to know an answer's command, if it is of as many slots done or more (P12.6).
func (g *group) wantKept(a said, done int) {
	g.t.Helper()
	if done < a.done {
		return
	}
	if k := g.knows[done][a.command.Server]; slices.Compare(k[:], []int{a.command.Boot, a.command.Seq}) < 0 {
		g.t.Errorf("the state behind slot %d doesn't know %+v, which was answered at %d", done, a.command, a.done)
	}
}

// sent takes messages of a peer down, and puts them into the bag.
func (g *group) sent(id int, l []api.Message) {
	g.t.Helper()
	for _, m := range l {
		if m.From != id {
			g.t.Errorf("%d sends %s", id, show([]api.Message{m}))
		}
		g.happened[fmt.Sprint("kind ", m.Kind)]++
		switch m.Kind {
		case mPropose:
			if !slices.Contains(g.values[m.Slot], m.Accepted.Value) {
				g.values[m.Slot] = append(g.values[m.Slot], m.Accepted.Value)
			}
		case mAnswer:
			g.answered(id, m)
		}
	}
	g.bag = append(g.bag, l...)
}

// answered takes an answer down: it is what the peer's state has.
func (g *group) answered(id int, m api.Message) {
	g.t.Helper()
	a := said{g.nodes[id].peer.Done(), m.Command}
	known := g.nodes[id].peer.State().Servers[m.To-8]
	if m.Command.Server != m.To-8 || known.Boot != m.Command.Boot || known.Seq != m.Command.Seq || !equal([]api.Message{{View: m.View}}, []api.Message{{View: known.Answer}}) {
		g.t.Errorf("%d answers %s", id, show([]api.Message{m}))
	}
	g.answers = append(g.answers, a)
	for done := range g.states {
		g.wantKept(a, done)
	}
}

// call makes a call on a peer that is up. One that answers ErrPower is down.
func (g *group) call(id int, on func(p *paxos.Peer, now int) ([]api.Message, api.Errno)) {
	g.t.Helper()
	x := g.nodes[id]
	l, err := on(x.peer, x.now)
	if err == errPower {
		g.happened["the power fails in a call"]++
		if len(l) > 0 {
			g.t.Errorf("%d sends beside an error: %s", id, show(l))
		}
		x.peer = nil
		return
	}
	if err != ok {
		g.t.Fatalf("a call on %d: %d", id, err)
	}
	g.look(id)
	g.sent(id, l)
	if slices.ContainsFunc(g.nodes, func(y *node) bool { return y != x && y.peer.Leads() && x.peer.Leads() }) {
		g.happened["several lead at once"]++
	}
}

// hand hands a message to whom it goes to, if that is up. To and from a peer that is cut off it is late, or lost.
func (g *group) hand(m api.Message) {
	g.t.Helper()
	if m.To == g.cut || m.From == g.cut {
		g.late = append(g.late, m)
		return
	}
	if m.To >= 8 {
		g.askers[m.To-8].take(m)
		return
	}
	if g.nodes[m.To].peer != nil {
		g.call(m.To, func(p *paxos.Peer, now int) ([]api.Message, api.Errno) { return p.Handle(now, m) })
	}
}

// take takes an answer to what is open.
func (a *asker) take(m api.Message) {
	if a.open != nil && m.Command.Boot == a.open.Boot && m.Command.Seq == a.open.Seq {
		a.open = nil
		if a.gen = m.View.Gen; m.View.Code == 27 {
			a.gen = 0
		}
	}
}

// ask sends what is open, or something new, to a peer.
func (g *group) ask(server, to int) {
	a := &g.askers[server]
	if g.rnd.Intn(40) == 0 {
		*a = asker{boot: a.boot + 1}
	}
	if a.open == nil {
		a.seq++
		c := one(g.rnd, renewOf(server, a.boot, a.seq, a.gen), lockOf(server, a.boot, a.seq, a.gen, g.rnd.Intn(19), api.Mode(1+g.rnd.Intn(2))), chainOf(server, a.boot, a.seq, a.gen, g.rnd.Perm(3)...))
		if a.gen == 0 {
			c = one(g.rnd, mountOf(server, a.boot, a.seq), api.Command{Kind: 5, Server: server, Boot: a.boot, Seq: a.seq, Other: server}, api.Command{Kind: 6, Server: server, Boot: a.boot, Seq: a.seq, Other: server})
		}
		a.open = &c
	}
	m := request(*a.open)
	m.To = to
	g.bag = append(g.bag, m)
}

// takeOut takes a message out of the bag.
func (g *group) takeOut(k int) api.Message {
	m := g.bag[k]
	g.bag = slices.Delete(slices.Clone(g.bag), k, k+1)
	return m
}

// fails lets a peer's power fail, now or in a write to come.
func (g *group) fails(id int) {
	x := g.nodes[id]
	if g.rnd.Intn(4) > 0 {
		x.store.Arm(g.rnd.Intn(25))
		return
	}
	x.store.Fail()
	x.peer = nil
}

// revive brings a peer back.
func (g *group) revive(id int) {
	g.t.Helper()
	x := g.nodes[id]
	x.store.Fail()
	x.store.Revive(g.rnd.Intn(12)-1, g.rnd.Intn(2) == 0)
	x.now = max(0, x.now+g.rnd.Intn(20)-5)
	g.start(id)
}

// habits are how often things happen, of each thousand steps; what is left over delivers messages.
type habits struct {
	cut, fail, revive, lose, double, ask, stand, tend, pass int
}

// someHabits are other ones for each group: some are calm, some cut peers off all the time, some hardly lose anything.
func someHabits(rnd *rand.Rand) habits {
	return habits{
		cut: one(rnd, 5, 30, 100), fail: one(rnd, 0, 10, 60), revive: one(rnd, 50, 120), lose: one(rnd, 0, 10, 80), double: one(rnd, 10, 100),
		ask: one(rnd, 60, 150), stand: one(rnd, 10, 40, 100), tend: one(rnd, 20, 60), pass: one(rnd, 5, 40),
	}
}

// step does one thing.
func (g *group) step() {
	g.t.Helper()
	n := g.rnd.Intn(1000)
	is := func(often int) bool {
		n -= often
		return n < 0 && n+often >= 0
	}
	id := g.rnd.Intn(len(g.nodes))
	x := g.nodes[id]
	x.now += g.rnd.Intn(4)
	h, up := g.habits, x.peer != nil
	some := func() int { return g.rnd.Intn(len(g.bag)) }
	switch {
	case is(h.cut):
		g.cutOff(g.rnd.Intn(len(g.nodes)+1) - 1)
	case is(h.fail) && up:
		g.fails(id)
	case is(h.revive) && !up:
		g.revive(id)
	case is(h.ask):
		g.ask(g.rnd.Intn(3), id)
	case is(h.stand) && up && (!x.peer.Leads() || g.rnd.Intn(9) == 0):
		g.call(id, (*paxos.Peer).Stand)
	case is(h.tend) && up:
		g.call(id, (*paxos.Peer).Tend)
	case is(h.pass) && up:
		g.call(id, (*paxos.Peer).Pass)
	case len(g.bag) == 0:
	case is(h.lose):
		g.takeOut(some())
	case is(h.double):
		g.bag = append(g.bag, g.bag[some()])
	default:
		g.hand(g.takeOut(some()))
	}
	if len(g.bag) > 20 {
		g.bag = g.bag[g.rnd.Intn(10):]
	}
}

// cutOff cuts a peer off, or none. Of what was late till now the last messages come.
func (g *group) cutOff(id int) {
	g.bag = append(g.bag, g.late[max(0, len(g.late)-10):]...)
	g.cut, g.late = id, nil
}

// deliverAll delivers all that is under way between peers that are up, and behind it what comes of it.
func (g *group) deliverAll() {
	g.t.Helper()
	for n := 0; len(g.bag) > 0 && !g.t.Failed(); n++ {
		if n > 500 {
			g.t.Fatal("the peers talk without end")
		}
		g.hand(g.takeOut(0))
	}
}

// goesOn brings most peers back, delivers all that is sent between them, and wants one of them to lead, when it has stood often enough, and then to answer a request (P12.7).
func (g *group) goesOn(down int) {
	g.t.Helper()
	g.cutOff(-1)
	var up []int
	for id, x := range g.nodes {
		if id == down {
			x.store.Fail()
			x.peer = nil
			continue
		}
		x.store.Arm(-1)
		if x.peer == nil {
			g.revive(id)
		}
		up = append(up, id)
	}
	g.deliverAll()
	id := one(g.rnd, up...)
	highest := 0
	for _, other := range up {
		highest = max(highest, g.nodes[other].promised)
	}
	g.wantAnswer(id, highest/len(g.nodes)+8)
}

// wantAnswer wants a peer to answer a server's next request, before it was tended so often. As long as it doesn't lead, it stands: another one, that had promised a higher ballot and whose vote it didn't need, may have told it so.
func (g *group) wantAnswer(id, tries int) {
	g.t.Helper()
	server := g.rnd.Intn(3)
	a := &g.askers[server]
	*a = asker{boot: a.boot + 1, seq: 1}
	c := mountOf(server, a.boot, 1)
	a.open = &c
	p := g.nodes[id].peer
	for ; a.open != nil && !g.t.Failed(); tries-- {
		if tries == 0 {
			g.t.Fatalf("%d doesn't answer; it leads %v, with %d", id, p.Leads(), p.Ballot())
		}
		if !p.Leads() {
			g.call(id, (*paxos.Peer).Stand)
			g.deliverAll()
			continue
		}
		m := request(c)
		m.To = id
		g.bag = append(g.bag, m)
		g.deliverAll()
		g.call(id, (*paxos.Peer).Tend)
		g.deliverAll()
	}
}

// play plays rows of steps, mostly of three peers, and lets them go on now and then.
func play(t *testing.T, seeds, steps int, happened map[string]int) {
	t.Helper()
	for seed := range int64(seeds) {
		g := newGroup(t, seed, int(min(3, 1+seed%6)), happened)
		g.habits = someHabits(g.rnd)
		for step := 0; step < steps && !t.Failed(); step++ {
			g.step()
			if step%500 == 499 {
				down := -1
				if len(g.nodes) == 3 {
					down = g.rnd.Intn(4) - 1
				}
				g.goesOn(down)
			}
		}
		if t.Failed() {
			t.Fatalf("seed %d", seed)
		}
	}
}

// wantHappened wants things to have happened so often.
func wantHappened(t *testing.T, happened map[string]int, least int, what ...string) {
	t.Helper()
	for _, w := range what {
		if happened[w] < least {
			t.Errorf("%s: %d times; all: %v", w, happened[w], happened)
		}
	}
}

// P12.5 to P12.7: messages are lost, doubled and late, and peers crash at any write and are begun again: as many slots done are one state, an answer is never forgotten, no two lead with one ballot, and it goes on.
func TestAgree(t *testing.T) {
	happened := map[string]int{}
	play(t, 500, 1000, happened)
	wantHappened(t, happened, 500, "slots", "the power fails in a call", "several lead at once", "kind 1", "kind 2", "kind 3", "kind 4", "kind 5", "kind 7", "kind 9")
}
