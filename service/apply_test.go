package service_test

import (
	"fmt"
	"testing"

	"lagoon/api"
	"lagoon/chain"
	"lagoon/locks"
	"lagoon/service"
)

// The chapter's example.
func TestExample(t *testing.T) {
	x := begin(t, 3)
	config := api.Config{Epoch: 1, Members: []int{0, 1, 2}, Since: []int{1, 1, 1}}
	for _, c := range []struct {
		c    api.Command
		want api.View
	}{
		{mountOf(0, 1, 1), api.View{Gen: 1, Config: config}},
		{lockOf(0, 1, 2, 1, 4, sole), api.View{Gen: 1, Config: config, Holds: []api.Hold{{Lock: 4, Mode: 2}}}},
		{lockOf(0, 1, 2, 1, 4, sole), api.View{Gen: 1, Config: config, Holds: []api.Hold{{Lock: 4, Mode: 2}}}},
		{passOf(61), api.View{}},
		{renewOf(0, 1, 3, 1), api.View{Code: 27, Gen: 1, Config: config, Dead: []api.Dead{{Server: 0, Fence: 2, Helper: -1}}}},
		{mountOf(1, 1, 1), api.View{Gen: 1, Config: config, Dead: []api.Dead{{Server: 0, Fence: 2, Helper: -1}}}},
		{helpOf(1, 1, 2, 1, 0), api.View{Gen: 1, Config: config, Dead: []api.Dead{{Server: 0, Fence: 2, Helper: 1}}}},
		{doneOf(1, 1, 3, 1, 0), api.View{Gen: 1, Config: config}},
		{mountOf(0, 2, 1), api.View{Gen: 2, Config: config}},
	} {
		if c.c.Kind == kDone && x.Holders[4] != [3]api.Mode{2, 0, 0} {
			t.Errorf("lock 4 is held %v by the one that is Gone", x.Holders[4])
		}
		y, v := service.Apply(x, c.c)
		wantView(t, fmt.Sprintf("Apply(%+v)", c.c), v, c.want)
		x = y
	}
	if x.Holders[4] != [3]api.Mode{} || x.Time != 61 || x.Servers[0].Expiry != 121 || x.Servers[0].Status != alive || x.Servers[1].Expiry != 121 {
		t.Errorf("at last: %s", show(x))
	}
}

// newOnes are a new command of server 0 of each kind but CmdPass, to full.
func newOnes() []api.Command {
	return []api.Command{
		mountOf(0, 7, 3), renewOf(0, 7, 3, 4), lockOf(0, 7, 3, 4, 9, shared), unlockOf(0, 7, 3, 4, 3),
		helpOf(0, 7, 3, 4, 1), doneOf(0, 7, 3, 4, 1), chainOf(0, 7, 3, 4, 0, 2),
	}
}

// P10.2: time passes up to MaxTime, and not past it: then ErrTime alone, of CmdPass and of each other kind; an answer that is given again, and ErrStale, are named ahead of that.
func TestTime(t *testing.T) {
	for _, left := range []int{0, 1, 5, maxPass - 1} {
		x := edited(full(), func(x *api.State) {
			x.Time = maxTime - left
			x.Servers[0].Expiry, x.Servers[2].Expiry = maxTime+lease, maxTime
		})
		for _, d := range []int{1, left, left + 1, left + 2, maxPass} {
			if d < 1 || d > maxPass {
				continue
			}
			if d > left {
				wantError(t, "past MaxTime", x, passOf(d), errTime)
				continue
			}
			wantApply(t, "up to MaxTime", x, passOf(d), edited(x, func(x *api.State) { x.Time += d }), api.View{})
		}
		for _, c := range newOnes() {
			y, v := service.Apply(x, after(left, c))
			want, view := plainApply(x, after(left, c))
			wantState(t, "up to MaxTime", y, want)
			wantView(t, "up to MaxTime", v, view)
			if y.Time != maxTime || v.Code == errTime || v.Code == errRange {
				t.Errorf("up to MaxTime: Apply(%+v): %d, at %d", c, v.Code, y.Time)
			}
			wantError(t, "past MaxTime", x, after(left+1, c), errTime)
			wantError(t, "past MaxTime", x, after(maxPass, c), errTime)
			again := after(left+1, c)
			again.Seq = 2
			wantApply(t, "again, past MaxTime", x, again, x, x.Servers[0].Answer)
			again.Seq = 1
			wantError(t, "stale, past MaxTime", x, again, errStale)
		}
		wantDone(t, "a lease at MaxTime", x, after(left, renewOf(0, 7, 3, 4)), ok, func(x *api.State) { x.Servers[0].Expiry = maxTime + lease })
	}
}

// P10.2: a lease is out at a Time above Expiry, and not at Expiry, for each server, by CmdPass and by another one's command; nobody helps it then. Who isn't Alive stays as it is.
func TestLeases(t *testing.T) {
	for server := range nServers {
		other := (server + 1) % nServers
		x := edited(full(), func(x *api.State) {
			for i := range x.Servers {
				x.Servers[i] = api.Member{Status: alive, Gen: 4, Expiry: 2000, Helper: i, Boot: 7, Seq: 2}
			}
			x.Servers[server].Expiry = 1010
		})
		out := func(x *api.State) { x.Servers[server].Status, x.Servers[server].Helper = gone, -1 }
		wantApply(t, "at Expiry", x, passOf(10), edited(x, func(x *api.State) { x.Time = 1010 }), api.View{})
		wantApply(t, "behind Expiry", x, passOf(11), edited(x, func(x *api.State) {
			x.Time = 1011
			out(x)
		}), api.View{})
		renewed := func(x *api.State) { x.Servers[other].Expiry = x.Time + lease }
		wantDone(t, "at Expiry", x, after(10, renewOf(other, 7, 3, 4)), ok, renewed)
		wantDone(t, "behind Expiry", x, after(11, renewOf(other, 7, 3, 4)), ok, func(x *api.State) {
			out(x)
			renewed(x)
		})
		late := edited(x, func(x *api.State) { x.Time = 1011 })
		wantDone(t, "behind Expiry, without a D", late, renewOf(other, 7, 3, 4), ok, func(x *api.State) {
			out(x)
			renewed(x)
		})
		wantDone(t, "behind Expiry, and refused", late, renewOf(other, 7, 3, 5), errDead, out)
		wantError(t, "behind Expiry, and stale", late, renewOf(other, 7, 4, 4), errStale)
		for _, status := range []api.Status{absent, gone} {
			for helper := -1; helper <= 2; helper++ {
				y := edited(x, func(x *api.State) { x.Servers[server].Status, x.Servers[server].Helper = status, helper })
				wantApply(t, "not Alive", y, passOf(11), edited(y, func(x *api.State) { x.Time = 1011 }), api.View{})
			}
		}
	}
	all := edited(full(), func(x *api.State) {
		x.Servers[0].Expiry, x.Servers[1].Status, x.Servers[1].Expiry = 1005, alive, 1005
	})
	wantApply(t, "all at once", all, passOf(6), edited(all, func(x *api.State) {
		x.Time = 1006
		for i := range x.Servers {
			x.Servers[i].Status, x.Servers[i].Helper = gone, -1
		}
	}), api.View{})
}

// P10.6: a lease that was given at a Time isn't out till more than Lease was passed, in whatever steps.
func TestLeaseLasts(t *testing.T) {
	for _, steps := range [][]int{{60, 1}, {59, 1, 1}, {1, 59, 1}, {61}, {30, 30, 1}, {20, 20, 20, 1}} {
		x := run(t, begin(t, 1), passOf(77), mountOf(0, 1, 1), passOf(5), mountOf(1, 1, 1), passOf(50), renewOf(0, 1, 2, 1))
		passed := 0
		for i, d := range steps {
			if x.Servers[0].Status != alive {
				t.Errorf("%v: out behind %d", steps, passed)
			}
			passed += d
			if i%2 == 0 {
				x = run(t, x, passOf(d))
			} else {
				x, _ = service.Apply(x, after(d, mountOf(2, 1+i, 1)))
			}
		}
		if x.Servers[0].Status != gone || x.Time != 193 {
			t.Errorf("%v: not out at %d", steps, x.Time)
		}
	}
}

// P10.2: ErrStale alone, for each of its reasons; what is just not stale.
func TestStale(t *testing.T) {
	x := edited(full(), func(x *api.State) { x.Servers[0].Seq = 5 })
	for _, c := range newOnes() {
		for _, n := range []struct{ boot, seq int }{
			{6, 1}, {6, 5}, {6, 6}, {1, 1}, {6, maxCount},
			{7, 1}, {7, 3}, {7, 4}, {7, 7}, {7, 8}, {7, maxCount},
			{8, 2}, {8, 5}, {8, 6}, {maxCount, 2}, {maxCount, maxCount},
		} {
			c.Boot, c.Seq = n.boot, n.seq
			wantError(t, "stale", x, c, errStale)
			wantError(t, "stale", x, after(maxPass, c), errStale)
		}
		for _, n := range []struct{ boot, seq int }{{7, 6}, {8, 1}, {9, 1}, {maxCount, 1}} {
			c.Boot, c.Seq = n.boot, n.seq
			y, v := service.Apply(x, c)
			if v.Code == errStale || y.Servers[0].Boot != n.boot || y.Servers[0].Seq != n.seq {
				t.Errorf("Apply(%+v): %d, and boot %d, seq %d are known", c, v.Code, y.Servers[0].Boot, y.Servers[0].Seq)
			}
		}
	}
	worn := edited(full(), func(x *api.State) { x.Servers[0].Boot, x.Servers[0].Seq = maxCount, maxCount })
	for _, c := range newOnes() {
		wantError(t, "behind the last number", worn, c, errStale)
		c.Boot, c.Seq = maxCount, maxCount
		wantApply(t, "the last number", worn, c, worn, worn.Servers[0].Answer)
		c.Seq = maxCount - 1
		wantError(t, "ahead of the last number", worn, c, errStale)
	}
	first := edited(full(), func(x *api.State) { x.Servers[0].Boot, x.Servers[0].Seq = 7, 0 })
	wantDone(t, "the first one of a life", first, renewOf(0, 7, 1, 4), ok, func(x *api.State) { x.Servers[0].Expiry = 1060 })
	wantError(t, "the second one of a life", first, renewOf(0, 7, 2, 4), errStale)
}

// P10.5: a command that comes twice, right behind, or late; its D passes once. A known one is answered as it was, whatever it is now.
func TestOnce(t *testing.T) {
	x := full()
	for _, c := range newOnes() {
		c = after(3, c)
		y, v := service.Apply(x, c)
		for range 3 {
			wantApply(t, "again", y, c, y, v)
			wantApply(t, "again, with another D", y, after(9, c), y, v)
			wantApply(t, "again, another kind", y, after(1, unlockOf(0, 7, 3, 4, 18)), y, v)
		}
		if y.Time != 1003 {
			t.Errorf("Apply(%+v): it is %d", c, y.Time)
		}
		z, _ := service.Apply(y, passOf(200))
		wantApply(t, "again, later", z, c, z, v)
		next, _ := service.Apply(z, renewOf(0, 7, 4, 4))
		wantError(t, "late", next, c, errStale)
		life, _ := service.Apply(z, mountOf(0, 8, 1))
		wantError(t, "of another life", life, c, errStale)
	}
	for server := range nServers {
		m := x.Servers[server]
		wantApply(t, "an answer that is kept", x, mountOf(server, m.Boot, m.Seq), x, m.Answer)
	}
}

// P10.2: CmdPass passes each time that it comes: it has no number.
func TestPassTwice(t *testing.T) {
	x := run(t, begin(t, 1), passOf(5), passOf(5))
	if x.Time != 10 {
		t.Errorf("it is %d", x.Time)
	}
}

// P10.2: CmdMount of a server that is Absent, Alive and Gone, and of one whose generations are worn out.
func TestMount(t *testing.T) {
	for server := range nServers {
		for helper := -1; helper <= 2; helper++ {
			of := func(status api.Status, gen int) api.State {
				return edited(full(), func(x *api.State) {
					x.Servers[server] = api.Member{Status: status, Gen: gen, Expiry: 1020, Helper: helper, Boot: 3, Seq: 4}
				})
			}
			for _, c := range []api.Command{mountOf(server, 4, 1), mountOf(server, 3, 5), after(20, mountOf(server, 9, 1))} {
				for _, gen := range []int{0, 8, maxCount - 1} {
					wantDone(t, "Absent", of(absent, gen), c, ok, func(x *api.State) {
						outAt(x, server)
						x.Servers[server].Status, x.Servers[server].Gen, x.Servers[server].Expiry, x.Servers[server].Helper = alive, gen+1, x.Time+60, -1
					})
				}
				wantDone(t, "worn", of(absent, maxCount), c, errWorn, func(x *api.State) { outAt(x, server) })
				for _, gen := range []int{0, 8, maxCount} {
					wantDone(t, "Alive", of(alive, gen), c, errDead, func(x *api.State) {
						outAt(x, server)
						x.Servers[server].Status, x.Servers[server].Helper = gone, -1
					})
					wantDone(t, "Gone", of(gone, gen), c, errDead, func(x *api.State) { outAt(x, server) })
				}
			}
			wantDone(t, "out by its own D", of(alive, 8), after(21, mountOf(server, 4, 1)), errDead, func(x *api.State) {
				outAt(x, server)
				x.Servers[server].Status, x.Servers[server].Helper = gone, -1
			})
		}
	}
}

// outAt puts out the leases of full that are out by now, but for one server's.
func outAt(x *api.State, but int) {
	for s, m := range x.Servers {
		if s != but && m.Status == alive && m.Expiry < x.Time {
			x.Servers[s].Status, x.Servers[s].Helper = gone, -1
		}
	}
}

// P10.2: CmdRenew, CmdLock, CmdUnlock and CmdChain of another generation, of a server that isn't Alive, and of one whose lease is out by the same command's D: ErrDead, and nothing but that is done; so do CmdHelp and CmdDone of another server.
func TestDead(t *testing.T) {
	for _, c := range newOnes()[1:] {
		for _, gen := range []int{0, 1, 3, 5, maxCount} {
			c.Gen = gen
			wantDone(t, "another generation", full(), c, errDead, nothing)
		}
		c.Gen = 4
		for _, status := range []api.Status{absent, gone} {
			for helper := -1; helper <= 2; helper++ {
				x := edited(full(), func(x *api.State) { x.Servers[0].Status, x.Servers[0].Helper = status, helper })
				wantDone(t, "not Alive", x, c, errDead, nothing)
			}
		}
		out := func(x *api.State) {
			x.Servers[0].Status, x.Servers[0].Helper = gone, -1
			outAt(x, 0)
		}
		wantDone(t, "out by its D", full(), after(51, c), errDead, out)
		wantDone(t, "out by its D", full(), after(maxPass, c), errDead, out)
		y, v := service.Apply(full(), after(50, c))
		if v.Code == errDead || y.Servers[0].Status != alive {
			t.Errorf("Apply(%+v) with the D 50: %d", c, v.Code)
		}
	}
	zero := edited(full(), func(x *api.State) { x.Servers[0].Gen = 0 })
	wantDone(t, "Alive in generation 0", zero, renewOf(0, 7, 3, 0), ok, func(x *api.State) { x.Servers[0].Expiry = 1060 })
}

// P10.2: CmdRenew: a new lease from that time on, for each server.
func TestRenew(t *testing.T) {
	for server := range nServers {
		for _, d := range []int{0, 1, 20} {
			x := edited(full(), func(x *api.State) {
				x.Servers[server] = api.Member{Status: alive, Gen: 9, Expiry: 1020, Helper: 1, Boot: 3, Seq: 4}
			})
			wantDone(t, "a lease", x, after(d, renewOf(server, 3, 5, 9)), ok, func(x *api.State) {
				outAt(x, server)
				x.Servers[server].Expiry = 1060 + d
			})
			long := edited(x, func(x *api.State) { x.Servers[server].Expiry = 9000 })
			wantDone(t, "a shorter lease", long, after(d, renewOf(server, 3, 5, 9)), ok, func(x *api.State) {
				outAt(x, server)
				x.Servers[server].Expiry = 1060 + d
			})
		}
	}
}

// P10.2: CmdLock and CmdUnlock, by rows written down: who has the lock at once, who waits, and who goes on.
func TestLocks(t *testing.T) {
	type waits = []api.Hold
	for _, lock := range []int{0, 7, 18} {
		for _, c := range []struct {
			what      string
			held      [3]api.Mode
			waits     waits
			c         api.Command
			heldThen  [3]api.Mode
			waitsThen waits
			holds     []api.Hold
		}{
			{"given at once", [3]api.Mode{}, nil, lockOf(0, 7, 3, 4, lock, sole), [3]api.Mode{2, 0, 0}, nil, []api.Hold{{Mode: 2}}},
			{"given beside others", [3]api.Mode{0, 1, 1}, nil, lockOf(0, 7, 3, 4, lock, shared), [3]api.Mode{1, 1, 1}, nil, []api.Hold{{Mode: 1}}},
			{"given more", [3]api.Mode{1, 0, 0}, nil, lockOf(0, 7, 3, 4, lock, sole), [3]api.Mode{2, 0, 0}, nil, []api.Hold{{Mode: 2}}},
			{"has more", [3]api.Mode{2, 0, 0}, nil, lockOf(0, 7, 3, 4, lock, shared), [3]api.Mode{2, 0, 0}, nil, []api.Hold{{Mode: 2}}},
			{"waits", [3]api.Mode{0, 2, 0}, nil, lockOf(0, 7, 3, 4, lock, shared), [3]api.Mode{0, 2, 0}, waits{{Lock: 0, Mode: 1}}, nil},
			{"waits for more", [3]api.Mode{1, 1, 0}, waits{{Lock: 2, Mode: 2}}, lockOf(0, 7, 3, 4, lock, sole), [3]api.Mode{1, 1, 0}, waits{{Lock: 2, Mode: 2}, {Lock: 0, Mode: 2}}, []api.Hold{{Mode: 1, Wanted: 2}}},
			{"another one goes on", [3]api.Mode{2, 0, 0}, waits{{Lock: 1, Mode: 1}, {Lock: 2, Mode: 1}}, unlockOf(0, 7, 3, 4, lock), [3]api.Mode{0, 1, 1}, nil, nil},
			{"one goes on, one waits", [3]api.Mode{2, 0, 0}, waits{{Lock: 2, Mode: 1}, {Lock: 1, Mode: 2}}, unlockOf(0, 7, 3, 4, lock), [3]api.Mode{0, 0, 1}, waits{{Lock: 1, Mode: 2}}, nil},
			{"waits no more", [3]api.Mode{0, 1, 0}, waits{{Lock: 0, Mode: 2}, {Lock: 2, Mode: 1}}, unlockOf(0, 7, 3, 4, lock), [3]api.Mode{0, 1, 1}, nil, nil},
			{"hasn't it", [3]api.Mode{0, 1, 0}, nil, unlockOf(0, 7, 3, 4, lock), [3]api.Mode{0, 1, 0}, nil, nil},
		} {
			x := edited(full(), func(x *api.State) {
				x.Holders, x.Queues = [nLocks][3]api.Mode{}, [nLocks][]api.Hold{}
				x.Holders[lock], x.Queues[lock] = c.held, c.waits
			})
			y := wantDone(t, c.what, x, c.c, ok, func(x *api.State) { x.Holders[lock], x.Queues[lock] = c.heldThen, c.waitsThen })
			for i := range c.holds {
				c.holds[i].Lock = lock
			}
			config := api.Config{Epoch: 5, Members: []int{2, 0, 1}, Since: []int{1, 3, 5}}
			wantView(t, c.what, y.Servers[0].Answer, api.View{Gen: 4, Config: config, Holds: c.holds, Dead: []api.Dead{{Server: 1, Fence: 3, Helper: -1}}})
		}
	}
}

// P10.2: CmdChain with what layer 8's Next refuses, with members that aren't below Stores, and with good ones.
func TestChain(t *testing.T) {
	of := func(stores int, config api.Config) api.State {
		return edited(few(stores), func(x *api.State) { x.Config = config })
	}
	one := api.Config{Epoch: 6, Members: []int{1}, Since: []int{4}}
	two := api.Config{Epoch: 9, Members: []int{1, 0}, Since: []int{2, 9}}
	last := api.Config{Epoch: maxCount, Members: []int{0}, Since: []int{1}}
	for _, c := range []struct {
		stores  int
		config  api.Config
		members []int
		code    api.Errno
		want    api.Config
	}{
		{3, two, []int{0, 1}, ok, api.Config{Epoch: 10, Members: []int{1, 0}, Since: []int{2, 9}}},
		{3, two, []int{2, 0}, ok, api.Config{Epoch: 10, Members: []int{0, 2}, Since: []int{9, 10}}},
		{3, two, []int{2, 0, 1}, ok, api.Config{Epoch: 10, Members: []int{1, 0, 2}, Since: []int{2, 9, 10}}},
		{2, two, []int{0}, ok, api.Config{Epoch: 10, Members: []int{0}, Since: []int{9}}},
		{2, one, []int{0, 1}, ok, api.Config{Epoch: 7, Members: []int{1, 0}, Since: []int{4, 7}}},
		{2, api.Config{Epoch: maxCount - 1, Members: []int{0}, Since: []int{1}}, []int{1, 0}, ok, api.Config{Epoch: maxCount, Members: []int{0, 1}, Since: []int{1, maxCount}}},
		{1, api.Config{Epoch: 3, Members: []int{0}, Since: []int{2}}, []int{0}, ok, api.Config{Epoch: 4, Members: []int{0}, Since: []int{2}}},
		{3, two, []int{1, 1}, errRange, two}, {3, two, []int{0, 1, 0}, errRange, two}, {2, two, []int{2, 2}, errRange, two},
		{3, two, []int{2}, errLost, two}, {3, one, []int{0, 2}, errLost, one}, {2, one, []int{0}, errLost, one},
		{2, last, []int{0}, errRange, last}, {2, last, []int{1}, errRange, last}, {1, last, []int{2}, errRange, last},
		{2, two, []int{0, 2}, errRange, two}, {2, two, []int{2, 0, 1}, errRange, two}, {1, api.Config{Epoch: 3, Members: []int{0}, Since: []int{2}}, []int{0, 1}, errRange, api.Config{Epoch: 3, Members: []int{0}, Since: []int{2}}},
		{2, two, []int{2}, errLost, two}, {1, api.Config{Epoch: 3, Members: []int{0}, Since: []int{2}}, []int{1, 2}, errLost, api.Config{Epoch: 3, Members: []int{0}, Since: []int{2}}},
	} {
		x := of(c.stores, c.config)
		y := wantDone(t, fmt.Sprint(c.stores, c.config, c.members), x, chainOf(0, 7, 3, 4, c.members...), c.code, func(x *api.State) { x.Config = c.want })
		if v := y.Servers[0].Answer; fmt.Sprint(v.Config) != fmt.Sprint(c.want) {
			t.Errorf("%v by %v: the view tells %v", c.config, c.members, v.Config)
		}
	}
}

// P10.2: CmdChain of each config with all lists of members, beside layer 8's Next.
func TestChainAll(t *testing.T) {
	for stores := 1; stores <= 3; stores++ {
		for _, old := range [][]int{{0}, {1}, {2}, {1, 0}, {2, 1}, {2, 0, 1}} {
			config := api.Config{Epoch: 7, Members: old, Since: []int{3, 5, 7}[:len(old)]}
			x := edited(few(stores), func(x *api.State) { x.Config = config })
			if !plainConfigMayBe(config, stores) {
				continue
			}
			for n := range 4 * 4 * 4 {
				var members []int
				for _, m := range []int{n / 16, n / 4 % 4, n % 4} {
					if m < 3 {
						members = append(members, m)
					}
				}
				if len(members) == 0 {
					continue
				}
				next, code := chain.Next(config, members)
				for _, m := range next.Members {
					if m >= stores {
						next, code = config, errRange
					}
				}
				if code != ok {
					next = config
				}
				wantDone(t, fmt.Sprint(config, members), x, chainOf(0, 7, 3, 4, members...), code, func(x *api.State) { x.Config = next })
			}
		}
	}
}

// helped is a state of servers with these statuses, in which one has a Helper. All are in generation 4; their next commands are 7 3.
func helped(statuses [nServers]api.Status, other, helper int) api.State {
	return edited(full(), func(x *api.State) {
		for i, status := range statuses {
			x.Servers[i] = api.Member{Status: status, Gen: 4, Expiry: 1050, Helper: -1, Boot: 7, Seq: 2}
		}
		x.Servers[other].Helper = helper
	})
}

// P10.2: CmdHelp and CmdDone, by rows written down, by another server and by the dead one itself.
func TestHelpRows(t *testing.T) {
	statuses := func(text string) (s [nServers]api.Status) {
		for i := range text {
			s[i] = map[byte]api.Status{'-': absent, 'a': alive, 'g': gone}[text[i]]
		}
		return s
	}
	for _, c := range []struct {
		statuses      string
		helper        int
		server, other int
		help, done    api.Errno
	}{
		{"aga", -1, 0, 1, ok, errUnknown}, {"aga", 0, 0, 1, ok, ok}, {"aga", 1, 0, 1, ok, errUnknown}, {"aga", 2, 0, 1, errHeld, errUnknown},
		{"agg", 2, 0, 1, ok, errUnknown}, {"ag-", 2, 0, 1, ok, errUnknown}, {"agg", 0, 0, 1, ok, ok},
		{"gga", 0, 0, 1, errDead, errDead}, {"-ga", 0, 0, 1, errDead, errDead}, {"gga", -1, 0, 1, errDead, errDead},
		{"a-a", 0, 0, 1, errUnknown, errUnknown}, {"aaa", 0, 0, 1, errUnknown, errUnknown}, {"aaa", -1, 0, 1, errUnknown, errUnknown}, {"--a", 0, 0, 1, errDead, errDead},
		{"gaa", -1, 0, 0, ok, errUnknown}, {"gaa", 0, 0, 0, ok, ok}, {"gaa", 1, 0, 0, errHeld, errUnknown}, {"gga", 1, 0, 0, ok, errUnknown}, {"g-a", 1, 0, 0, ok, errUnknown},
		{"aaa", -1, 0, 0, errUnknown, errUnknown}, {"aaa", 0, 0, 0, errUnknown, errUnknown}, {"-aa", 0, 0, 0, errUnknown, errUnknown},
		{"aag", 2, 1, 2, ok, errUnknown}, {"aag", 1, 1, 2, ok, ok}, {"aag", 0, 1, 2, errHeld, errUnknown}, {"gag", 0, 1, 2, ok, errUnknown},
	} {
		x := helped(statuses(c.statuses), c.other, c.helper)
		what := fmt.Sprint(c.statuses, ", the Helper ", c.helper)
		wantDone(t, what, x, helpOf(c.server, 7, 3, 4, c.other), c.help, func(x *api.State) {
			if c.help == ok {
				x.Servers[c.other].Helper = c.server
			}
		})
		wantDone(t, what, x, doneOf(c.server, 7, 3, 4, c.other), c.done, func(x *api.State) {
			if c.done == ok {
				*x = locks.Drop(*x, c.other)
				x.Servers[c.other].Status, x.Servers[c.other].Helper = absent, -1
			}
		})
		code := errDead
		if c.server == c.other {
			code = c.help
		}
		wantDone(t, what+", another generation", x, helpOf(c.server, 7, 3, 5, c.other), code, func(x *api.State) {
			if code == ok {
				x.Servers[c.other].Helper = c.server
			}
		})
	}
}

// P10.2: CmdHelp and CmdDone of each server for each one, in each status, with each Helper, in its generation and in another one, beside the plain one.
func TestHelpAll(t *testing.T) {
	codes := map[string]int{}
	for n := range 27 {
		statuses := [nServers]api.Status{api.Status(n / 9), api.Status(n / 3 % 3), api.Status(n % 3)}
		for k := range 36 {
			server, other, helper := k%3, k/3%3, k/9-1
			x := helped(statuses, other, helper)
			for _, gen := range []int{4, 3, 0} {
				for _, c := range []api.Command{helpOf(server, 7, 3, gen, other), doneOf(server, 7, 3, gen, other), after(51, helpOf(server, 8, 1, gen, other))} {
					want, view := plainApply(x, c)
					wantApply(t, fmt.Sprint(statuses, ", the Helper ", helper), x, c, want, view)
					codes[fmt.Sprint(c.Kind, view.Code)]++
				}
			}
		}
	}
	for _, pair := range []string{"5 0", "5 27", "5 28", "5 29", "6 0", "6 27", "6 29"} {
		if codes[pair] < 10 {
			t.Errorf("kind and Code %s: %d times", pair, codes[pair])
		}
	}
}

// P10.2, P10.4: behind CmdDone all locks of the dead one are free, waiting ones too, and others go on; till then all that it holds stays held.
func TestDoneLocks(t *testing.T) {
	x := run(t, begin(t, 1), mountOf(0, 1, 1), mountOf(1, 1, 1), mountOf(2, 1, 1),
		lockOf(0, 1, 2, 1, 0, sole), lockOf(1, 1, 2, 1, 0, shared), lockOf(2, 1, 2, 1, 0, shared),
		lockOf(0, 1, 3, 1, 18, shared), lockOf(1, 1, 3, 1, 18, sole),
		lockOf(2, 1, 3, 1, 5, sole), lockOf(0, 1, 4, 1, 5, sole), lockOf(1, 1, 4, 1, 5, shared),
		lockOf(2, 1, 4, 1, 6, shared), lockOf(0, 1, 5, 1, 6, sole), lockOf(1, 1, 5, 1, 6, shared),
		passOf(40), renewOf(1, 1, 6, 1), renewOf(2, 1, 5, 1), passOf(21), helpOf(1, 1, 7, 1, 0))
	held := func(x api.State) string {
		return fmt.Sprint(x.Holders[0], x.Queues[0], x.Holders[18], x.Queues[18], x.Holders[5], x.Queues[5], x.Holders[6], x.Queues[6])
	}
	if x.Servers[0].Status != gone || held(x) != "[2 0 0] [{1 1 0} {2 1 0}] [1 0 0] [{1 2 0}] [0 0 2] [{0 2 0} {1 1 0}] [0 0 1] [{0 2 0} {1 1 0}]" {
		t.Fatalf("ahead: %s", show(x))
	}
	y := run(t, x, doneOf(1, 1, 8, 1, 0))
	if y.Servers[0].Status != absent || held(y) != "[0 1 1] [] [0 2 0] [] [0 0 2] [{1 1 0}] [0 1 1] []" {
		t.Errorf("behind: %s", show(y))
	}
	wantView(t, "behind", y.Servers[1].Answer, api.View{Gen: 1, Config: api.Config{Epoch: 1, Members: []int{0}, Since: []int{1}}, Holds: []api.Hold{{Lock: 0, Mode: 1}, {Lock: 6, Mode: 1}, {Lock: 18, Mode: 2}}})
	z, v := service.Apply(x, unlockOf(0, 1, 6, 1, 0))
	wantView(t, "the dead one's unlocking", v, api.View{Code: errDead, Gen: 1, Config: api.Config{Epoch: 1, Members: []int{0}, Since: []int{1}}, Dead: []api.Dead{{Server: 0, Fence: 2, Helper: 1}}})
	if held(z) != held(x) {
		t.Errorf("the dead one unlocks: %s", show(z))
	}
}

// P10.2: the view, written down: the Holds of one that is Alive alone, each Gone one, rising, with its fence and its Helper; Gen as it is, also of one that isn't Alive.
func TestView(t *testing.T) {
	config := api.Config{Epoch: 5, Members: []int{2, 0, 1}, Since: []int{1, 3, 5}}
	holds := []api.Hold{{Lock: 3, Mode: 1, Wanted: 2}}
	for _, c := range []struct {
		what string
		do   func(*api.State)
		c    api.Command
		want api.View
	}{
		{"Alive", nothing, renewOf(0, 7, 3, 4), api.View{Gen: 4, Config: config, Holds: holds, Dead: []api.Dead{{Server: 1, Fence: 3, Helper: -1}}}},
		{"refused, and Alive", nothing, renewOf(0, 7, 3, 5), api.View{Code: errDead, Gen: 4, Config: config, Holds: holds, Dead: []api.Dead{{Server: 1, Fence: 3, Helper: -1}}}},
		{"Gone", nothing, renewOf(1, 5, 9, 2), api.View{Code: errDead, Gen: 2, Config: config, Dead: []api.Dead{{Server: 1, Fence: 3, Helper: -1}}}},
		{"Alive, and dead by that", nothing, mountOf(0, 8, 1), api.View{Code: errDead, Gen: 4, Config: config, Dead: []api.Dead{{Server: 0, Fence: 5, Helper: -1}, {Server: 1, Fence: 3, Helper: -1}}}},
		{"two dead, one out by that", nothing, after(1, helpOf(0, 7, 3, 4, 1)), api.View{Gen: 4, Config: config, Holds: holds, Dead: []api.Dead{{Server: 1, Fence: 3, Helper: 0}, {Server: 2, Fence: 7, Helper: -1}}}},
		{"all dead", nothing, after(51, helpOf(1, 6, 1, 0, 1)), api.View{Gen: 2, Config: config, Dead: []api.Dead{{Server: 0, Fence: 5, Helper: -1}, {Server: 1, Fence: 3, Helper: 1}, {Server: 2, Fence: 7, Helper: -1}}}},
		{"Absent", func(x *api.State) { x.Servers[0].Status, x.Servers[0].Gen = absent, maxCount }, mountOf(0, 8, 1), api.View{Code: errWorn, Gen: maxCount, Config: config, Dead: []api.Dead{{Server: 1, Fence: 3, Helper: -1}}}},
		{"the last fence", func(x *api.State) { x.Servers[1].Gen, x.Servers[1].Helper = maxCount, 2 }, renewOf(0, 7, 3, 4), api.View{Gen: 4, Config: config, Holds: holds, Dead: []api.Dead{{Server: 1, Fence: maxCount + 1, Helper: 2}}}},
		{"of server 2", nothing, renewOf(2, 1, 2, 6), api.View{Gen: 6, Config: config, Holds: []api.Hold{{Lock: 3, Mode: 1, Wanted: 2}, {Lock: 18, Mode: 2, Wanted: 1}}, Dead: []api.Dead{{Server: 1, Fence: 3, Helper: -1}}}},
	} {
		y, v := service.Apply(edited(full(), c.do), c.c)
		wantView(t, c.what, v, c.want)
		wantView(t, c.what+", as it is kept", y.Servers[c.c.Server].Answer, c.want)
	}
}
