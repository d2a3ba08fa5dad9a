package client_test

import (
	"fmt"
	"math/rand"
	"testing"

	"lagoon/api"
	"lagoon/client"
	"lagoon/service"
)

// key is what a request is known by.
type key struct{ server, boot, seq int }

func keyOf(x api.Command) key { return key{x.Server, x.Boot, x.Seq} }

// record is what became of a request.
type record struct {
	command api.Command
	asked   int // when it was first sent
	done    int // how often the service has done it
	when    int // when it has
	view    api.View
	taken   int
}

// net is three servers, each with a client, and a service behind a net that loses, doubles and delays. Of the peers one answers, now this one, now that one; all know the same state.
type net struct {
	t        *testing.T
	rnd      *rand.Rand
	now      int
	peers    int
	leader   int
	state    api.State
	bag      []api.Message
	clients  [3]*client.Client
	boots    [3]int
	gens     [3]int
	records  map[key]*record
	happened map[string]int
}

func newNet(t *testing.T, seed int64, happened map[string]int) *net {
	t.Helper()
	n := &net{t: t, rnd: rand.New(rand.NewSource(seed)), records: map[key]*record{}, happened: happened}
	n.peers = 1 + n.rnd.Intn(3)
	n.state, _ = service.Start(3)
	for server := range 3 {
		n.boot(server)
	}
	return n
}

// boot begins another life of a server.
func (n *net) boot(server int) {
	n.t.Helper()
	n.boots[server]++
	n.gens[server] = 0
	c, err := client.New(server, n.boots[server], n.peers)
	if err != ok {
		n.t.Fatalf("New: %d", err)
	}
	n.clients[server] = c
}

// sent takes messages down, and puts them into the bag: a request goes out as it was asked for, and no number has two.
func (n *net) sent(server int, l []api.Message) {
	n.t.Helper()
	for _, m := range l {
		if m.Kind != mRequest || m.From != 8+server || m.To < 0 || m.To >= n.peers || m.To != n.clients[server].Peer() {
			n.t.Errorf("server %d sends %+v", server, m)
		}
		r := n.records[keyOf(m.Command)]
		if r == nil || !equalCommands(r.command, m.Command) || r.taken > 0 {
			n.t.Errorf("server %d sends %+v; the number's request is %+v", server, m, r)
		}
		n.bag = append(n.bag, cloned([]api.Message{m})...)
	}
}

// ask asks for something.
func (n *net) ask(server int) {
	n.t.Helper()
	x := mount()
	if gen := n.gens[server]; gen > 0 {
		x = one(n.rnd, renew(gen), lock(gen, n.rnd.Intn(19), api.Mode(1+n.rnd.Intn(2))), unlock(gen, n.rnd.Intn(19)), members(gen, n.rnd.Perm(3)...))
	} else if n.rnd.Intn(2) == 0 {
		x = one(n.rnd, help(0, server), done(0, server))
	}
	_, busy := n.clients[server].Open()
	out, err := n.clients[server].Ask(n.now, x)
	if busy {
		if err != errBusy || len(out) > 0 {
			n.t.Errorf("Ask while one is open: %d, %+v", err, out)
		}
		return
	}
	if err != ok || len(out) != 1 {
		n.t.Fatalf("Ask(%+v): %d, %+v", x, err, out)
	}
	if k := keyOf(out[0].Command); n.records[k] != nil || k.boot != n.boots[server] {
		n.t.Errorf("the number %+v is used twice", k)
	}
	n.records[keyOf(out[0].Command)] = &record{command: cloned(out)[0].Command, asked: n.now}
	n.sent(server, out)
}

// tend sends again.
func (n *net) tend(server int) {
	n.t.Helper()
	out, err := n.clients[server].Tend(n.now)
	if err != ok {
		n.t.Errorf("Tend: %d", err)
	}
	n.sent(server, out)
}

// deliver hands a message to whom it goes to.
func (n *net) deliver(k int) {
	n.t.Helper()
	m := n.bag[k]
	n.bag = append(append([]api.Message(nil), n.bag[:k]...), n.bag[k+1:]...)
	if m.Kind == mAnswer {
		n.take(m)
	} else if m.To == n.leader {
		n.serve(m)
	}
}

// serve does a request, or answers it again; an old one isn't answered.
func (n *net) serve(m api.Message) {
	n.t.Helper()
	r := n.records[keyOf(m.Command)]
	known := n.state.Servers[m.Command.Server]
	isNew := known.Boot != m.Command.Boot || known.Seq != m.Command.Seq
	next, view := service.Apply(n.state, m.Command)
	if view.Code == api.ErrStale {
		n.happened["stale"]++
		return
	}
	n.state = next
	if isNew {
		r.done, r.when, r.view = r.done+1, n.now, view
	}
	n.bag = append(n.bag, api.Message{Kind: mAnswer, From: m.To, To: m.From, Command: m.Command, View: view})
}

// take takes an answer: once, with what the service did, and with a moment that isn't behind that.
func (n *net) take(m api.Message) {
	n.t.Helper()
	server := m.To - 8
	x, _ := n.clients[server].Open()
	v, first, is := n.clients[server].Take(m)
	if is != (keyOf(x) == keyOf(m.Command)) {
		n.t.Errorf("Take(%+v): %v; open is %+v", m, is, x)
	}
	if !is {
		n.happened["an answer of before"]++
		return
	}
	r := n.records[keyOf(m.Command)]
	r.taken++
	if r.taken != 1 || r.done != 1 || !equalViews(v, r.view) || first != r.asked || first > r.when {
		n.t.Errorf("Take(%+v): %+v, %d; the request is %+v", m, v, first, r)
	}
	n.gens[server] = v.Gen
	if v.Code == 27 {
		n.gens[server] = 0
	}
	n.happened["answered"]++
}

// step is one of what may happen.
func (n *net) step() {
	n.t.Helper()
	n.now += n.rnd.Intn(3)
	server := n.rnd.Intn(3)
	switch x := n.rnd.Intn(100); {
	case x < 25:
		n.ask(server)
	case x < 50:
		n.tend(server)
	case x < 51:
		n.boot(server)
	case x < 54:
		n.leader = n.rnd.Intn(n.peers)
	case len(n.bag) == 0:
	case x < 62:
		k := n.rnd.Intn(len(n.bag))
		n.bag = append(append([]api.Message(nil), n.bag[:k]...), n.bag[k+1:]...)
	case x < 70:
		n.bag = append(n.bag, cloned(n.bag[n.rnd.Intn(len(n.bag)):][:1])...)
	default:
		n.deliver(n.rnd.Intn(len(n.bag)))
	}
}

// P13.5: over a net that loses, doubles and delays, no number is used twice, one request is open at a time, each is done once and its answer taken once, with the moment of its first sending; and as soon as nothing more is lost, all are answered.
func TestNet(t *testing.T) {
	happened := map[string]int{}
	for seed := range int64(60) {
		n := newNet(t, seed, happened)
		for range 1500 {
			n.step()
		}
		for range 8 {
			n.now += retry
			for server := range 3 {
				n.tend(server)
			}
			for len(n.bag) > 0 {
				n.deliver(0)
			}
		}
		for server, c := range n.clients {
			if x, is := c.Open(); is {
				t.Errorf("seed %d: server %d's request isn't answered: %+v", seed, server, x)
			}
		}
		for _, r := range n.records {
			if r.done > 1 || r.taken > 1 {
				t.Errorf("seed %d: a request was done, or answered, twice: %+v", seed, r)
			}
		}
		if t.Failed() {
			t.FailNow()
		}
	}
	for _, what := range []string{"answered", "stale", "an answer of before"} {
		if happened[what] < 500 {
			t.Errorf("too few: %s", fmt.Sprint(happened))
		}
	}
}
