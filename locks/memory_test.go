package locks_test

import (
	"fmt"
	"math/rand"
	"testing"

	"lagoon/api"
	"lagoon/locks"
)

// wide is a list of the same things with spare room behind its end, in which something stands.
func wide[T any](l []T, spare ...T) []T {
	if l == nil {
		return nil
	}
	return append(append([]T(nil), l...), spare...)[:len(l)]
}

// roomy is a state all of whose lists have spare room, but for those that are nil.
func roomy(t api.State) api.State {
	eachList(&t,
		func(l *[]int) { *l = wide(*l, 71, 72, 73, 74) },
		func(l *[]api.Hold) {
			*l = wide(*l, api.Hold{Lock: 71}, api.Hold{Lock: 1, Mode: 2}, api.Hold{Mode: 7, Wanted: 3}, api.Hold{Lock: 74})
		},
		func(l *[]api.Dead) { *l = wide(*l, api.Dead{Server: 71}, api.Dead{Fence: 72}) })
	return t
}

// opened is a state whose lists reach to the end of their spare room.
func opened(t api.State) api.State {
	eachList(&t,
		func(l *[]int) { *l = (*l)[:cap(*l)] },
		func(l *[]api.Hold) { *l = (*l)[:cap(*l)] },
		func(l *[]api.Dead) { *l = (*l)[:cap(*l)] })
	return t
}

// memory is all lists that were handed in and answered, to the end of their spare room.
type memory struct {
	ints  [][]int
	holds [][]api.Hold
	deads [][]api.Dead
}

// take adds the lists of a state.
func (m *memory) take(t api.State) {
	t = opened(t)
	eachList(&t,
		func(l *[]int) { m.ints = append(m.ints, *l) },
		func(l *[]api.Hold) { m.holds = append(m.holds, *l) },
		func(l *[]api.Dead) { m.deads = append(m.deads, *l) })
}

// branded writes to each list its own thing, and then tells how many of them haven't it all over: these share memory with another one.
func branded[T comparable](lists [][]T, brand func(k int) T) int {
	for k, l := range lists {
		for i := range l {
			l[i] = brand(k)
		}
	}
	shared := 0
	for k, l := range lists {
		for _, x := range l {
			if x != brand(k) {
				shared++
				break
			}
		}
	}
	return shared
}

// wantApart wants no two lists to share memory; what stood in them is gone behind it.
func (m *memory) wantApart(t *testing.T, what string) {
	t.Helper()
	n := branded(m.ints, func(k int) int { return k }) +
		branded(m.holds, func(k int) api.Hold { return api.Hold{Lock: k} }) +
		branded(m.deads, func(k int) api.Dead { return api.Dead{Server: k} })
	if n > 0 {
		t.Errorf("%s: %d lists share memory", what, n)
	}
}

// R5, R6: no call changes a list that is handed in, nor the room behind it, nor keeps it; each list that is answered is new memory, spare room too, in states that may be and in those that may not.
func TestMemory(t *testing.T) {
	rows := goodRows()
	for i, p := range rows {
		lock := i % nLocks
		rnd := rand.New(rand.NewSource(int64(i)))
		x := roomy(p.into(randomState(rnd, rows), lock))
		if i%9 == 0 {
			x.Queues[(lock+1)%nLocks] = append(x.Queues[(lock+1)%nLocks], api.Hold{Lock: 9})
		}
		was := clone(opened(x))
		var m memory
		m.take(x)
		for server := -1; server <= 3; server++ {
			for mode := range api.Mode(4) {
				y, _ := locks.Ask(x, lock, server, mode)
				m.take(y)
			}
			y, _ := locks.Free(x, lock, server)
			m.take(y)
			m.take(locks.Drop(x, server))
			for range 2 {
				l := locks.Holds(x, server)
				m.holds = append(m.holds, l[:cap(l)])
			}
		}
		if !equal(opened(x), was) {
			t.Fatalf("a call changes %s, or the room behind a list", showAll(was))
		}
		m.wantApart(t, fmt.Sprint(lock, ": ", p.show()))
	}
}

// R5, R6: a row of states, each made of the one before, beside queues that grow and shrink: what is done with the later ones changes none of the earlier ones.
func TestMemoryRow(t *testing.T) {
	rnd := rand.New(rand.NewSource(5))
	x := roomy(randomState(rnd, goodRows()))
	var all, were []api.State
	var m memory
	for range 300 {
		all, were = append(all, x), append(were, clone(x))
		m.take(x)
		x = randomCall(rnd).on(t, x)
	}
	for i := range all {
		wantState(t, fmt.Sprint("state ", i), all[i], ok, were[i], ok)
	}
	m.wantApart(t, "a row of states")
}

// R1, R6: lists of a state that are long, and that this layer doesn't look at, are answered as they are.
func TestLongLists(t *testing.T) {
	var x api.State
	x.Config = api.Config{Members: make([]int, 1<<20), Since: make([]int, 1<<20)}
	x.Servers[2].Answer.Holds = make([]api.Hold, 1<<20)
	x.Servers[0].Answer.Dead = make([]api.Dead, 1<<20)
	x.Servers[1].Answer.Config = api.Config{Members: []int{}, Since: make([]int, 1<<20)}
	want := clone(x)
	y, err := locks.Ask(x, 18, 2, sole)
	want.Holders[18][2] = sole
	wantState(t, "Ask", y, err, want, ok)
	want.Holders[18][2] = free
	z, err := locks.Free(y, 18, 2)
	wantState(t, "Free", z, err, want, ok)
	wantState(t, "Drop", locks.Drop(y, 2), ok, want, ok)
}
