package client_test

import (
	"fmt"
	"math/rand"
	"testing"

	"lagoon/api"
	"lagoon/service"
)

// sending is one that a plain client has made.
type sending struct {
	now, to int
	command api.Command
}

// plain is a client as the chapter tells it, that keeps all that it has ever sent: of each number in a row of its own.
type plain struct {
	server, boot, peers int
	rows                [][]sending
	answered            bool // whether the last row is
	asks                int
}

// open is the row of what is open, or none.
func (p *plain) open() []sending {
	if len(p.rows) == 0 || p.answered {
		return nil
	}
	return p.rows[len(p.rows)-1]
}

// send adds a sending to the last row, and is its message.
func (p *plain) send(now int, x api.Command) []api.Message {
	row := &p.rows[len(p.rows)-1]
	*row = append(*row, sending{now, p.asks, x})
	return []api.Message{{Kind: mRequest, From: 8 + p.server, To: p.asks, Command: x}}
}

// ask as P13.2 tells it.
func (p *plain) ask(now int, x api.Command) ([]api.Message, api.Errno) {
	x = numbered(x, p.server, p.boot, len(p.rows)+1)
	switch {
	case now < 0 || now > maxTime:
		return nil, errRange
	case !service.ValidCommand(x) || x.Kind == kPass || x.D != 0:
		return nil, errKind
	case p.open() != nil:
		return nil, errBusy
	}
	x.Members = append([]int(nil), x.Members...)
	p.rows, p.answered = append(p.rows, nil), false
	return p.send(now, x), ok
}

// tend as P13.3 tells it.
func (p *plain) tend(now int) ([]api.Message, api.Errno) {
	if now < 0 || now > maxTime {
		return nil, errRange
	}
	row := p.open()
	if row == nil || now < row[len(row)-1].now+6 {
		return nil, ok
	}
	p.asks = (p.asks + 1) % p.peers
	return p.send(now, row[0].command), ok
}

// take as P13.4 tells it.
func (p *plain) take(m api.Message) (api.View, int, bool) {
	row := p.open()
	if row == nil || m.Kind != 9 || m.To != 8+p.server || m.From < 0 || m.From > p.peers-1 {
		return api.View{}, 0, false
	}
	if x, y := row[0].command, m.Command; x.Server != y.Server || x.Boot != y.Boot || x.Seq != y.Seq {
		return api.View{}, 0, false
	}
	p.answered = true
	p.asks = m.From
	return m.View, row[0].now, true
}

// told is what it tells.
func (p *plain) told() told {
	x := told{peer: p.asks, again: -1, first: -1, next: len(p.rows) + 1}
	if row := p.open(); row != nil {
		x.open, x.isOpen, x.first = row[0].command, true, row[0].now
		if again := row[len(row)-1].now + 6; again <= maxTime {
			x.again = again
		}
	}
	return x
}

// row is a client and a plain one, of which the same is asked.
type row struct {
	*rig
	plain    *plain
	rnd      *rand.Rand
	happened map[string]int
}

func newRow(t *testing.T, seed int64, happened map[string]int) *row {
	t.Helper()
	rnd := rand.New(rand.NewSource(seed))
	server, boot, peers := rnd.Intn(3), 1+rnd.Intn(5), 1+rnd.Intn(3)
	return &row{made(t, server, boot, peers), &plain{server: server, boot: boot, peers: peers}, rnd, happened}
}

// one is any of these.
func one[T any](rnd *rand.Rand, l ...T) T {
	return l[rnd.Intn(len(l))]
}

// moment is one around the last sending and those at which it is sent again, or any.
func (r *row) moment() int {
	base := 0
	if sent := r.plain.open(); sent != nil {
		base = sent[len(sent)-1].now
	} else if n := len(r.plain.rows); n > 0 {
		base = r.plain.rows[n-1][0].now
	}
	switch r.rnd.Intn(30) {
	case 0:
		return one(r.rnd, badTimes...)
	case 1:
		return r.rnd.Intn(40)
	case 2:
		return maxTime - r.rnd.Intn(30)
	}
	return base + r.rnd.Intn(14) - 2
}

// command is one that may be asked for, or has a fault.
func (r *row) command() api.Command {
	x := one(r.rnd, good()...)
	if r.rnd.Intn(4) == 0 {
		one(r.rnd, fieldChanges()...).do(&x)
	}
	if r.rnd.Intn(3) == 0 {
		x = numbered(x, r.rnd.Intn(5)-1, r.rnd.Intn(5)-1, r.rnd.Intn(5)-1)
	}
	return x
}

// message is the answer to what is open, or one with a fault.
func (r *row) message() api.Message {
	m := r.answer(r.rnd.Intn(r.peers), len(r.plain.rows), someView())
	m.View.Gen = r.rnd.Intn(9)
	switch r.rnd.Intn(10) {
	case 0:
		m.Kind = api.MsgKind(r.rnd.Intn(12) - 1)
	case 1:
		m.To = r.rnd.Intn(14) - 1
	case 2:
		m.From = r.rnd.Intn(14) - 1
	case 3:
		m.Command.Server = r.rnd.Intn(5) - 1
	case 4:
		m.Command.Boot = r.rnd.Intn(7)
	case 5, 6:
		m.Command.Seq -= r.rnd.Intn(4) - 1
	}
	return m
}

// wantSame holds what the two answered against each other.
func (r *row) wantSame(what string, out []api.Message, err api.Errno, want []api.Message, wantErr api.Errno) {
	r.t.Helper()
	if err != wantErr || !equal(out, want) {
		r.t.Errorf("%s: %d, %+v; want %d, %+v", what, err, out, wantErr, want)
	}
	r.happened[fmt.Sprintf("%s: %d, %d messages", what, err, len(out))]++
}

// play makes a call on both.
func (r *row) play() {
	r.t.Helper()
	now := r.moment()
	switch r.rnd.Intn(3) {
	case 0:
		x := r.command()
		out, err := r.Ask(now, x)
		want, wantErr := r.plain.ask(now, x)
		r.wantSame("Ask", out, err, want, wantErr)
	case 1:
		out, err := r.Tend(now)
		want, wantErr := r.plain.tend(now)
		r.wantSame("Tend", out, err, want, wantErr)
	case 2:
		m := r.message()
		v, first, is := r.Take(m)
		view, wantFirst, wantIs := r.plain.take(m)
		if !equalViews(v, view) || first != wantFirst || is != wantIs {
			r.t.Errorf("Take(%+v): %+v, %d, %v; want %+v, %d, %v", m, v, first, is, view, wantFirst, wantIs)
		}
		r.happened[fmt.Sprint("Take: ", is)]++
	}
	want := r.plain.told()
	x, is := r.Open()
	if is != want.isOpen || !equalCommands(x, want.open) || r.Peer() != want.peer {
		r.t.Errorf("Open: %+v, %v, Peer: %d; want %+v", x, is, r.Peer(), want)
	}
}

// P13.1 to P13.5: long rows of calls with any arguments come to what a plain client comes to.
func TestPlain(t *testing.T) {
	happened := map[string]int{}
	for seed := range int64(150) {
		r := newRow(t, seed, happened)
		for step := range 400 {
			r.play()
			if step%8 == 0 {
				r.wantTold("in a row", r.plain.told())
			}
			if t.Failed() {
				t.Fatalf("seed %d, step %d", seed, step)
			}
		}
	}
	for _, what := range []string{"Ask: 0, 1 messages", "Ask: 2, 0 messages", "Ask: 19, 0 messages", "Ask: 26, 0 messages", "Tend: 0, 0 messages", "Tend: 0, 1 messages", "Tend: 2, 0 messages", "Take: true", "Take: false"} {
		if happened[what] < 100 {
			t.Errorf("%s: %d times", what, happened[what])
		}
	}
}

// R7: what several clients do in turns is what each does alone.
func TestApart(t *testing.T) {
	const rows, steps = 6, 300
	run := func(turns bool) (all [rows]told) {
		var l [rows]*row
		for i := range l {
			l[i] = newRow(t, int64(1000+i), map[string]int{})
		}
		for i := range rows * steps {
			if turns {
				l[i%rows].play()
			} else {
				l[i/steps].play()
			}
		}
		for i := range l {
			all[i] = l[i].tells()
		}
		return all
	}
	alone, turns := run(false), run(true)
	if fmt.Sprint(alone) != fmt.Sprint(turns) {
		t.Errorf("in turns: %+v; want %+v", turns, alone)
	}
}
