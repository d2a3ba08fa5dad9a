package service_test

import (
	"fmt"
	"math/rand"
	"testing"

	"lagoon/api"
	"lagoon/service"
)

// nextCommand is one in a row from a new service on: mostly little time passes.
func nextCommand(rnd *rand.Rand, x api.State) api.Command {
	c := randomCommand(rnd, x)
	d := oneOf(rnd, 0, 0, 0, 0, 0, 0, 0, 0, rnd.Intn(6), rnd.Intn(6))
	if rnd.Intn(300) == 0 {
		d = oneOf(rnd, lease, lease+1, maxPass)
	}
	if c.Kind == kPass {
		d = max(1, d)
	}
	return after(d, c)
}

// wantForward wants Time, each Gen and the Config's Epoch not to have fallen (P10.4).
func wantForward(t *testing.T, c api.Command, was, is api.State) {
	t.Helper()
	falls := is.Time < was.Time || is.Config.Epoch < was.Config.Epoch || is.Stores != was.Stores
	for i := range is.Servers {
		falls = falls || is.Servers[i].Gen < was.Servers[i].Gen
	}
	if falls {
		t.Errorf("Apply(%+v): %s\n\tbehind %s", c, show(is), show(was))
	}
}

// wantHeld wants no two servers to hold a lock in modes that don't go together, and what a Gone one held to be held till it is Absent (P10.4).
func wantHeld(t *testing.T, c api.Command, was, is api.State) {
	t.Helper()
	for lock, held := range is.Holders {
		times := map[api.Mode]int{}
		for server, mode := range held {
			times[mode]++
			if is.Servers[server].Status == gone && mode < was.Holders[lock][server] {
				t.Errorf("Apply(%+v): server %d is Gone, and lock %d is held %v, was %v", c, server, lock, held, was.Holders[lock])
			}
		}
		if times[sole] > 1 || times[sole] == 1 && times[shared] > 0 {
			t.Errorf("Apply(%+v): lock %d is held %v", c, lock, held)
		}
	}
}

// wantLeases wants whoever is Alive, behind time that passed, to have its Expiry at Time or above (P10.6).
func wantLeases(t *testing.T, c api.Command, x api.State) {
	t.Helper()
	for i, m := range x.Servers {
		if m.Status == alive && m.Expiry < x.Time {
			t.Errorf("Apply(%+v): server %d is Alive, at %d with Expiry %d", c, i, x.Time, m.Expiry)
		}
	}
}

// grants are what is known of the leases and the generations that were given.
type grants struct {
	given [nServers]int
	gens  map[[2]int]bool
}

// note takes a command and its Code down, and wants leases to have lasted, and no generation to be given twice.
func (g *grants) note(t *testing.T, c api.Command, code api.Errno, was, is api.State) {
	t.Helper()
	for s := range nServers {
		isMount := c.Kind == kMount && c.Server == s
		if was.Servers[s].Status == alive && !isMount && (is.Servers[s].Status == alive) != (is.Time <= g.given[s]+lease) {
			t.Errorf("Apply(%+v): the lease that was given to %d at %d: %s", c, s, g.given[s], show(is))
		}
		if was.Servers[s].Status != gone && is.Servers[s].Status == gone && is.Servers[s].Helper != -1 {
			t.Errorf("Apply(%+v): %d helps %d, which dies", c, is.Servers[s].Helper, s)
		}
	}
	if code != ok || c.Kind != kMount && c.Kind != kRenew || is.Servers[c.Server].Seq == was.Servers[c.Server].Seq && is.Servers[c.Server].Boot == was.Servers[c.Server].Boot {
		return
	}
	g.given[c.Server] = is.Time
	gen := [2]int{c.Server, is.Servers[c.Server].Gen}
	if c.Kind == kMount && g.gens[gen] {
		t.Errorf("Apply(%+v): generation %d is given twice", c, gen[1])
	}
	g.gens[gen] = true
}

// wantOnce wants a command that comes again, right behind, to change nothing, and to be answered as before (P10.5).
func wantOnce(t *testing.T, c api.Command, y api.State, v api.View) {
	t.Helper()
	if c.Kind == kPass {
		return
	}
	again, view := service.Apply(y, c)
	wantState(t, fmt.Sprintf("Apply(%+v) again", c), again, y)
	wantView(t, fmt.Sprintf("Apply(%+v) again", c), view, v)
}

// wantCodes wants each of these pairs of a kind and a Code to have come often.
func wantCodes(t *testing.T, got map[string]int, least int, pairs ...string) {
	t.Helper()
	for _, pair := range pairs {
		if got[pair] < least {
			t.Errorf("kind and Code %s: %d times", pair, got[pair])
		}
	}
}

// P10.2 to P10.6: long rows of commands from Start on, beside the plain one.
func TestHistory(t *testing.T) {
	codes := map[string]int{}
	for seed := range int64(30) {
		rnd := rand.New(rand.NewSource(seed))
		x := begin(t, 1+int(seed)%3)
		g := grants{gens: map[[2]int]bool{}}
		for range 700 {
			c := nextCommand(rnd, x)
			want, view := plainApply(x, c)
			y := wantApply(t, "in a row", x, c, want, view)
			codes[fmt.Sprint(c.Kind, view.Code)]++
			wantForward(t, c, x, y)
			wantHeld(t, c, x, y)
			wantLeases(t, c, y)
			g.note(t, c, view.Code, x, y)
			wantOnce(t, c, y, view)
			if !service.Valid(y) {
				t.Errorf("Apply(%+v) answers what may not be: %s", c, show(y))
			}
			text, err := service.Encode(y)
			if err != ok {
				t.Errorf("Encode(%s): %d", show(y), err)
			}
			wantDecoded(t, text, y, ok)
			if t.Failed() {
				return
			}
			x = y
		}
	}
	wantCodes(t, codes, 8, "1 0", "1 25", "1 27", "2 0", "2 25", "2 27", "3 0", "3 25", "3 27", "4 0", "4 25", "4 27",
		"5 0", "5 25", "5 27", "5 28", "5 29", "6 0", "6 25", "6 27", "6 29", "7 0", "7 2", "7 23", "7 25", "7 27", "8 0")
}

// P10.2, P10.4: commands to states at random, that no row from Start on may come to, beside the plain one.
func TestAnywhere(t *testing.T) {
	codes := map[string]int{}
	rnd := rand.New(rand.NewSource(6))
	for range 3000 {
		x := randomState(rnd)
		for range 10 {
			c := randomCommand(rnd, x)
			want, view := plainApply(x, c)
			y := wantApply(t, "anywhere", x, c, want, view)
			wantForward(t, c, x, y)
			wantHeld(t, c, x, y)
			if y.Time > x.Time {
				wantLeases(t, c, y)
			}
			wantOnce(t, c, y, view)
			if !service.Valid(y) {
				t.Errorf("Apply(%+v) answers what may not be: %s", c, show(y))
			}
			if t.Failed() {
				return
			}
			codes[fmt.Sprint(c.Kind, view.Code)]++
		}
	}
	wantCodes(t, codes, 5, "1 0", "1 15", "1 18", "1 25", "1 27", "2 0", "2 18", "2 25", "2 27", "3 0", "3 18", "3 25", "3 27", "4 0", "4 18", "4 25", "4 27",
		"5 0", "5 18", "5 25", "5 27", "5 28", "5 29", "6 0", "6 18", "6 25", "6 27", "6 29", "7 0", "7 2", "7 18", "7 23", "7 25", "7 27", "8 0", "8 18")
}

// P10.4, P10.5: the same commands, each one or more times, and late ones between, come to the same as each once.
func TestDoubled(t *testing.T) {
	for seed := range int64(20) {
		rnd := rand.New(rand.NewSource(seed))
		once := begin(t, 3)
		doubled := once
		var done []api.Command
		for range 300 {
			c := nextCommand(rnd, once)
			y, v := service.Apply(once, c)
			doubled, _ = service.Apply(doubled, c)
			once = y
			if c.Kind == kPass || v.Code == errStale {
				continue
			}
			done = append(done, c)
			for range rnd.Intn(3) {
				doubled, _ = service.Apply(doubled, done[len(done)-1-rnd.Intn(min(len(done), 9))])
			}
		}
		wantState(t, "doubled", doubled, once)
	}
}

// R7: rows of commands on several states, one behind the other or in turns, come to the same.
func TestApart(t *testing.T) {
	const rows, commands = 4, 200
	var alone, turns [rows]api.State
	var rnds [rows]*rand.Rand
	start := func(states *[rows]api.State) {
		for i := range rows {
			states[i], rnds[i] = begin(t, 1+i%3), rand.New(rand.NewSource(int64(i)))
		}
	}
	step := func(states *[rows]api.State, i int) {
		states[i], _ = service.Apply(states[i], nextCommand(rnds[i], states[i]))
	}
	start(&alone)
	for i := range rows {
		for range commands {
			step(&alone, i)
		}
	}
	start(&turns)
	for range commands {
		for i := range rows {
			step(&turns, i)
		}
	}
	for i := range rows {
		wantState(t, "in turns", turns[i], alone[i])
	}
}
