package locks_test

import (
	"fmt"
	"math"
	"math/rand"
	"reflect"
	"slices"
	"strconv"
	"strings"
	"testing"

	"lagoon/api"
)

// The numbers, as the document tells them.
const (
	nLocks   = 19
	nServers = 3

	free   api.Mode = 0
	shared api.Mode = 1
	sole   api.Mode = 2

	ok       api.Errno = 0
	errRange api.Errno = 2
)

// farOff are numbers that are far beside all bounds.
func farOff() []int {
	return []int{math.MinInt, math.MinInt + 1, -1 << 32, -19, -3, -2, 20, 38, 255, 256, 1 << 31, 1 << 32, 1<<32 + 1, 1<<32 + 2, 1 << 62, math.MaxInt - 1, math.MaxInt}
}

// plain is one lock as the chapter tells it: the mode of each server, and who waits, with which mode.
type plain struct {
	held  [nServers]api.Mode
	waits []api.Hold
}

// plainGoes as the Words tell it.
func plainGoes(a, b api.Mode) bool {
	return a == free || b == free || [2]api.Mode{a, b} == [2]api.Mode{shared, shared}
}

// plainOf is a lock of a state.
func plainOf(t api.State, lock int) plain {
	return plain{t.Holders[lock], slices.Clone(t.Queues[lock])}
}

// into is a state with this as one of its locks.
func (p plain) into(t api.State, lock int) api.State {
	t.Holders[lock], t.Queues[lock] = p.held, p.waits
	return t
}

// blocked tells whether another server's mode keeps the first one from going.
func (p plain) blocked() bool {
	others := p.held
	others[p.waits[0].Lock] = free
	return slices.ContainsFunc(others[:], func(m api.Mode) bool { return !plainGoes(m, p.waits[0].Mode) })
}

// mayBe as the Words tell it.
func (p plain) mayBe() bool {
	times := map[api.Mode]int{}
	for _, m := range p.held {
		times[m]++
	}
	if times[free]+times[shared]+times[sole] != nServers || times[sole] > 1 || times[sole] == 1 && times[shared] > 0 {
		return false
	}
	waiting := map[int]bool{}
	for _, h := range p.waits {
		if h.Lock < 0 || h.Lock > 2 || h.Mode < 1 || h.Mode > 2 || h.Wanted != 0 || waiting[h.Lock] {
			return false
		}
		if p.held[h.Lock] >= h.Mode {
			return false
		}
		waiting[h.Lock] = true
	}
	return len(p.waits) == 0 || p.blocked()
}

// goOn as the Words tell it.
func (p plain) goOn() plain {
	for len(p.waits) > 0 && !p.blocked() {
		p.held[p.waits[0].Lock] = p.waits[0].Mode
		p.waits = p.waits[1:]
	}
	return p
}

// ask as P9.2 tells it.
func (p plain) ask(server int, mode api.Mode) plain {
	if p.held[server] == mode || p.held[server] == sole {
		return p
	}
	p.waits = slices.Clone(p.waits)
	for i, h := range p.waits {
		if h.Lock != server {
			continue
		}
		if h.Mode == shared && mode == sole {
			p.waits[i].Mode = sole
		}
		return p.goOn()
	}
	p.waits = append(p.waits, api.Hold{Lock: server, Mode: mode})
	return p.goOn()
}

// free as P9.2 tells it.
func (p plain) free(server int) plain {
	p.held[server] = free
	p.waits = slices.DeleteFunc(slices.Clone(p.waits), func(h api.Hold) bool { return h.Lock == server })
	return p.goOn()
}

// wanted as P9.3 tells it.
func (p plain) wanted(server int) api.Mode {
	if len(p.waits) > 0 && p.waits[0].Lock != server && !plainGoes(p.waits[0].Mode, p.held[server]) {
		return p.waits[0].Mode
	}
	return free
}

// plainValid as P9.1 tells it.
func plainValid(t api.State) bool {
	for lock := range nLocks {
		if !plainOf(t, lock).mayBe() {
			return false
		}
	}
	return true
}

// plainDrop as P9.2 tells it.
func plainDrop(t api.State, server int) api.State {
	if server < 0 || server > 2 || !plainValid(t) {
		return t
	}
	for lock := range nLocks {
		t = plainOf(t, lock).free(server).into(t, lock)
	}
	return t
}

// plainHolds as P9.3 tells it.
func plainHolds(t api.State, server int) []api.Hold {
	if server < 0 || server > 2 || !plainValid(t) {
		return nil
	}
	var l []api.Hold
	for lock := range nLocks {
		p := plainOf(t, lock)
		if p.held[server] > 0 {
			l = append(l, api.Hold{Lock: lock, Mode: p.held[server], Wanted: p.wanted(server)})
		}
	}
	return l
}

// parse reads a lock from a text: the mode of each server as one of -sX, and those that wait, the first one first, each with its mode.
func parse(text string) plain {
	words := strings.Fields(text)
	var p plain
	for server := range nServers {
		p.held[server] = api.Mode(strings.IndexByte("-sX", words[0][server]))
	}
	for _, w := range words[1:] {
		p.waits = append(p.waits, api.Hold{Lock: int(w[0] - '0'), Mode: api.Mode(strings.IndexByte("-sX", w[1]))})
	}
	return p
}

// show is a lock as a text, as parse reads it, where all is as it may be; of a long queue the beginning.
func (p plain) show() string {
	letter := func(m api.Mode) string {
		if m < 0 || m > 2 {
			return "(" + strconv.Itoa(int(m)) + ")"
		}
		return "-sX"[m : m+1]
	}
	text := ""
	for _, m := range p.held {
		text += letter(m)
	}
	for i, h := range p.waits {
		if i == 5 {
			return text + " and " + strconv.Itoa(len(p.waits)-i) + " more"
		}
		text += " " + strconv.Itoa(h.Lock) + letter(h.Mode)
		if h.Wanted != 0 {
			text += "!" + letter(h.Wanted)
		}
	}
	return text
}

// showAll is those locks of a state that aren't free.
func showAll(t api.State) string {
	var all []string
	for lock := range nLocks {
		if p := plainOf(t, lock); p.held != [nServers]api.Mode{} || len(p.waits) > 0 {
			all = append(all, fmt.Sprint(lock, ": ", p.show()))
		}
	}
	return strings.Join(all, ", ")
}

// queuesOf are all lists of up to most of these Holds.
func queuesOf(most int, of []api.Hold) [][]api.Hold {
	all := [][]api.Hold{nil}
	for from := 0; len(all[from]) < most; from++ {
		for _, h := range of {
			all = append(all, append(slices.Clone(all[from]), h))
		}
	}
	return all
}

// holdersOf are all threes of these modes.
func holdersOf(modes ...api.Mode) [][nServers]api.Mode {
	var all [][nServers]api.Mode
	for _, a := range modes {
		for _, b := range modes {
			for _, c := range modes {
				all = append(all, [nServers]api.Mode{a, b, c})
			}
		}
	}
	return all
}

// waitersOf are all Holds of these servers, modes and modes wanted.
func waitersOf(servers []int, modes, wanted []api.Mode) []api.Hold {
	var all []api.Hold
	for _, s := range servers {
		for _, m := range modes {
			for _, w := range wanted {
				all = append(all, api.Hold{Lock: s, Mode: m, Wanted: w})
			}
		}
	}
	return all
}

// goodRows are all ways in which a lock may be.
func goodRows() []plain {
	var all []plain
	queues := queuesOf(3, waitersOf([]int{0, 1, 2}, []api.Mode{1, 2}, []api.Mode{0}))
	for _, held := range holdersOf(0, 1, 2) {
		for _, waits := range queues {
			if p := (plain{held, waits}); p.mayBe() {
				all = append(all, p)
			}
		}
	}
	return all
}

// randomState is one whose locks may be, each at random, and all of whose other fields and lists have something in them, that which may not be too: this layer doesn't look there.
func randomState(rnd *rand.Rand, rows []plain) api.State {
	number := func() int { return rnd.Intn(1000) - 300 }
	numbers := func() []int { return []int{number(), number(), number(), number()}[:1+rnd.Intn(4)] }
	config := func() api.Config { return api.Config{Epoch: number(), Members: numbers(), Since: numbers()} }
	t := api.State{Stores: number(), Time: math.MinInt + number(), Config: config()}
	for i := range t.Servers {
		t.Servers[i] = api.Member{Status: api.Status(number()), Gen: number(), Expiry: number(), Helper: number(), Boot: number(), Seq: number()}
		a := &t.Servers[i].Answer
		*a = api.View{Code: api.Errno(number()), Gen: number(), Config: config()}
		for range 1 + rnd.Intn(30) {
			a.Holds = append(a.Holds, api.Hold{Lock: number(), Mode: api.Mode(number()), Wanted: api.Mode(number())})
		}
		for range 1 + rnd.Intn(5) {
			a.Dead = append(a.Dead, api.Dead{Server: number(), Fence: number(), Helper: number()})
		}
	}
	for lock := range nLocks {
		t = rows[rnd.Intn(len(rows))].into(t, lock)
	}
	return clone(t)
}

// copyList is a list of new memory; no list, if it is empty: these two are one.
func copyList[T any](l []T) []T {
	return append([]T(nil), l...)
}

// eachList does something with each list of a state.
func eachList(t *api.State, ints func(*[]int), holds func(*[]api.Hold), deads func(*[]api.Dead)) {
	config := func(x *api.Config) {
		ints(&x.Members)
		ints(&x.Since)
	}
	config(&t.Config)
	for i := range t.Servers {
		a := &t.Servers[i].Answer
		config(&a.Config)
		holds(&a.Holds)
		deads(&a.Dead)
	}
	for lock := range t.Queues {
		holds(&t.Queues[lock])
	}
}

// clone is a state that shares no list with another one.
func clone(t api.State) api.State {
	eachList(&t,
		func(l *[]int) { *l = copyList(*l) },
		func(l *[]api.Hold) { *l = copyList(*l) },
		func(l *[]api.Dead) { *l = copyList(*l) })
	return t
}

// equal tells whether two states are one, nil and the empty list too.
func equal(x, y api.State) bool {
	return reflect.DeepEqual(clone(x), clone(y))
}

// wantState holds a state, and the error beside it, against those that should be.
func wantState(t *testing.T, call string, got api.State, err api.Errno, want api.State, wantErr api.Errno) {
	t.Helper()
	if err != wantErr || !equal(got, want) {
		t.Errorf("%s: %s, %d; want %s, %d (or another field isn't as it was)", call, showAll(got), err, showAll(want), wantErr)
	}
}

// wantHolds holds what Holds answers against what it should.
func wantHolds(t *testing.T, call string, got, want []api.Hold) {
	t.Helper()
	if !slices.Equal(got, want) {
		t.Errorf("%s: Holds: %v; want %v", call, got, want)
	}
}
