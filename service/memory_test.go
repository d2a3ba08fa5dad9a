package service_test

import (
	"fmt"
	"math/rand"
	"sync"
	"testing"

	"lagoon/api"
	"lagoon/service"
)

// wide makes a list one with spare room behind its end, in which something stands; no list stays none.
func wide[T any](l *[]T, spare ...T) {
	if *l != nil {
		*l = append(append([]T(nil), *l...), spare...)[:len(*l)]
	}
}

// roomy are lists with spare room.
func roomy() lists {
	return lists{
		func(l *[]int) { wide(l, 71, 72, 0, 1) },
		func(l *[]api.Hold) { wide(l, api.Hold{Lock: 71}, api.Hold{Lock: 1, Mode: 2}, api.Hold{Mode: 7}) },
		func(l *[]api.Dead) { wide(l, api.Dead{Server: 71}, api.Dead{Fence: 72}) },
	}
}

// toTheEnd makes a list reach to the end of its spare room.
func toTheEnd[T any](l *[]T) {
	*l = (*l)[:cap(*l)]
}

func opening() lists {
	return lists{toTheEnd[int], toTheEnd[api.Hold], toTheEnd[api.Dead]}
}

// opened is a state whose lists reach to the end of their spare room.
func opened(x api.State) api.State {
	opening().ofState(&x)
	return x
}

// memory is all lists that were handed in and answered, to the end of their spare room.
type memory struct {
	ints  [][]int
	holds [][]api.Hold
	deads [][]api.Dead
}

// lists takes lists down.
func (m *memory) lists() lists {
	return lists{
		func(l *[]int) { m.ints = append(m.ints, (*l)[:cap(*l)]) },
		func(l *[]api.Hold) { m.holds = append(m.holds, (*l)[:cap(*l)]) },
		func(l *[]api.Dead) { m.deads = append(m.deads, (*l)[:cap(*l)]) },
	}
}

// take takes the lists of a state and a view down.
func (m *memory) take(x api.State, v api.View) {
	m.lists().ofState(&x)
	m.lists().ofView(&v)
}

// branded writes to each list its own thing, and then tells how many of them haven't it all over: these share memory with another one.
func branded[T comparable](lists [][]T, brand func(k int) T) int {
	for k, l := range lists {
		for i := range l {
			l[i] = brand(k)
		}
	}
	shared := 0
	for k, l := range lists {
		for _, x := range l {
			if x != brand(k) {
				shared++
				break
			}
		}
	}
	return shared
}

// wantApart wants no two lists to share memory; what stood in them is gone behind it.
func (m *memory) wantApart(t *testing.T, what string) {
	t.Helper()
	n := branded(m.ints, func(k int) int { return k }) +
		branded(m.holds, func(k int) api.Hold { return api.Hold{Lock: k} }) +
		branded(m.deads, func(k int) api.Dead { return api.Dead{Server: k} })
	if n > 0 {
		t.Errorf("%s: %d lists share memory", what, n)
	}
}

// commandsFor are those of each kind to a state, new ones, ones that come again, late ones, ones past MaxTime, and such as may not be.
func commandsFor(rnd *rand.Rand, x api.State) []api.Command {
	all := []api.Command{{}, {Kind: kChain, Members: []int{0, 1, 2, 9}}, {Kind: kMount, Members: []int{1}}, passOf(1), passOf(maxPass)}
	for server, m := range x.Servers {
		all = append(all, mountOf(server, max(m.Boot, 1), max(m.Seq, 1)), mountOf(server, min(m.Boot+1, maxCount), 2))
		for range 12 {
			all = append(all, randomCommand(rnd, x))
		}
		all = append(all, chainOf(server, max(m.Boot, 1), min(m.Seq+1, maxCount), m.Gen, x.Config.Members...))
	}
	return all
}

// R5, R6: Apply changes no list that is handed in, nor the room behind it, nor keeps it; each list that is answered, in the state and in the view, is new memory, spare room too; also beside an error, of an answer that is given again, and of states that may not be.
func TestMemory(t *testing.T) {
	amiss := allChanges().amiss
	for seed := range 300 {
		rnd := rand.New(rand.NewSource(int64(seed)))
		x := randomState(rnd)
		if seed%3 == 1 {
			x = edited(triple(), amiss[seed*7%len(amiss)].do)
		}
		if seed%3 == 2 {
			x = full()
		}
		roomy().ofState(&x)
		wasState := clone(opened(x))
		var m memory
		m.lists().ofState(&x)
		for _, c := range commandsFor(rnd, x) {
			wide(&c.Members, 71, 72, 0, 1)
			was := append([]int(nil), c.Members[:cap(c.Members)]...)
			y, v := service.Apply(x, c)
			m.take(y, v)
			again, view := service.Apply(y, c)
			m.take(again, view)
			if fmt.Sprint(c.Members[:cap(c.Members)]) != fmt.Sprint(was) {
				t.Fatalf("Apply(%+v) changes the Members, or the room behind them", c)
			}
			m.ints = append(m.ints, c.Members[:cap(c.Members)])
		}
		if !equal(opened(x), wasState) {
			t.Fatalf("a call changes %s, or the room behind a list", show(x))
		}
		m.wantApart(t, fmt.Sprint("seed ", seed))
	}
}

// R5, R6: a row of states, each made of the one before: what is done with the later ones changes none of the earlier ones, nor their views.
func TestMemoryRow(t *testing.T) {
	rnd := rand.New(rand.NewSource(7))
	x := begin(t, 3)
	roomy().ofState(&x)
	var all, were []api.State
	var views, viewsWere []api.View
	var m memory
	for range 600 {
		y, v := service.Apply(x, nextCommand(rnd, x))
		all, were = append(all, y), append(were, clone(y))
		views, viewsWere = append(views, v), append(viewsWere, cloneView(v))
		m.take(y, v)
		x = y
	}
	for i := range all {
		wantState(t, fmt.Sprint("state ", i), all[i], were[i])
		wantView(t, fmt.Sprint("view ", i), views[i], viewsWere[i])
	}
	m.wantApart(t, "a row of states")
}

// R5, R6: of Start, Valid, Encode, Decode and those of commands.
func TestMemoryOfBytes(t *testing.T) {
	rnd := rand.New(rand.NewSource(8))
	for range 100 {
		x := randomState(rnd)
		c := chainOf(1, 2, 3, 4, rnd.Perm(3)...)
		roomy().ofState(&x)
		wide(&c.Members, 71, 72)
		was, wasMembers := clone(opened(x)), fmt.Sprint(c.Members[:5])
		var m memory
		m.lists().ofState(&x)
		m.ints = append(m.ints, c.Members[:5])
		text, err := service.Encode(x)
		command, commandErr := service.EncodeCommand(c)
		if err != ok || commandErr != ok || !service.Valid(x) || !service.ValidCommand(c) {
			t.Fatalf("%s may not be", show(x))
		}
		for range 2 {
			y, _ := service.Decode(text)
			m.take(y, api.View{})
			d, _ := service.DecodeCommand(command)
			m.ints = append(m.ints, d.Members[:cap(d.Members)])
			z, _ := service.Start(3)
			m.take(z, api.View{})
		}
		if !equal(opened(x), was) || fmt.Sprint(c.Members[:5]) != wasMembers {
			t.Fatalf("a call changes %s, or the room behind a list", show(x))
		}
		m.wantApart(t, "bytes")
	}
}

// R5: one state and one command are handed in at many places at once: no call writes to them (as go test -race tells).
func TestSharedArguments(t *testing.T) {
	x, c := full(), chainOf(0, 7, 3, 4, 2, 1)
	roomy().ofState(&x)
	var group sync.WaitGroup
	for range 4 {
		group.Go(func() {
			for range 20 {
				service.Apply(x, c)
				service.Encode(x)
				service.EncodeCommand(c)
				service.Valid(x)
				service.ValidCommand(c)
			}
		})
	}
	group.Wait()
	wantState(t, "handed in", x, full())
}

// R1: lists that are long, of states that may not be, are answered as they are, beside ErrRange.
func TestLongLists(t *testing.T) {
	const n = 1 << 18
	x := full()
	x.Config = api.Config{Epoch: 1, Members: make([]int, n), Since: make([]int, n)}
	x.Servers[0].Answer.Holds, x.Servers[2].Answer.Dead = make([]api.Hold, n), make([]api.Dead, n)
	x.Queues[18] = make([]api.Hold, n)
	wantError(t, "long lists", x, passOf(1), errRange)
	if _, err := service.Encode(x); err != errRange || service.Valid(x) {
		t.Errorf("Encode of long lists: %d", err)
	}
}
