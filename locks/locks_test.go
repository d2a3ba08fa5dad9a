package locks_test

import (
	"fmt"
	"math/rand"
	"slices"
	"testing"

	"lagoon/api"
	"lagoon/locks"
)

// ask is an Ask that must be done.
func ask(t *testing.T, x api.State, lock, server int, mode api.Mode) api.State {
	t.Helper()
	y, err := locks.Ask(x, lock, server, mode)
	if err != ok {
		t.Fatalf("Ask(%s; %d, %d, %d): %d", showAll(x), lock, server, mode, err)
	}
	return y
}

// release is a Free that must be done.
func release(t *testing.T, x api.State, lock, server int) api.State {
	t.Helper()
	y, err := locks.Free(x, lock, server)
	if err != ok {
		t.Fatalf("Free(%s; %d, %d): %d", showAll(x), lock, server, err)
	}
	return y
}

// wantRow holds a lock of a state against what it should be.
func wantRow(t *testing.T, what string, x api.State, lock int, want string) {
	t.Helper()
	if got := plainOf(x, lock).show(); got != want {
		t.Errorf("%s: lock %d is %s; want %s", what, lock, got, want)
	}
}

// The chapter's examples.
func TestExamples(t *testing.T) {
	x := ask(t, api.State{}, 3, 0, shared)
	x = ask(t, x, 3, 1, shared)
	wantRow(t, "two Asks, Shared", x, 3, "ss-")
	x = ask(t, x, 3, 2, sole)
	wantRow(t, "an Ask, Sole", x, 3, "ss- 2X")
	wantHolds(t, "of 0", locks.Holds(x, 0), []api.Hold{{Lock: 3, Mode: 1, Wanted: 2}})
	wantHolds(t, "of 2", locks.Holds(x, 2), nil)
	x = ask(t, x, 3, 0, sole)
	wantRow(t, "an Ask of a holder, Sole", x, 3, "ss- 2X 0X")
	x = release(t, x, 3, 1)
	wantRow(t, "Free of 1", x, 3, "s-- 2X 0X")
	x = release(t, x, 3, 0)
	wantRow(t, "Free of 0", x, 3, "--X")
	got, err := locks.Ask(x, 19, 0, shared)
	wantState(t, "Ask of lock 19", got, err, api.State{}, 2)
}

// P9.1: Goes of each two modes, and of numbers that are none.
func TestGoes(t *testing.T) {
	for a, row := range [][]bool{{true, true, true}, {true, true, false}, {true, false, false}} {
		for b, want := range row {
			if got := locks.Goes(api.Mode(a), api.Mode(b)); got != want {
				t.Errorf("Goes(%d, %d): %v; want %v", a, b, got, want)
			}
		}
	}
	none := append(farOff(), -1, 3, 4)
	for _, n := range none {
		for _, k := range append(none, 0, 1, 2) {
			a, b := api.Mode(n), api.Mode(k)
			if locks.Goes(a, b) != (k == 0) || locks.Goes(b, a) != (k == 0) {
				t.Errorf("Goes(%d, %d), Goes(%d, %d): %v, %v; want %v", a, b, b, a, locks.Goes(a, b), locks.Goes(b, a), k == 0)
			}
		}
	}
}

// P9.1: Valid of the zero state, of states whose other fields may not be, and of locks written down, at each lock by itself.
func TestValid(t *testing.T) {
	if !locks.Valid(api.State{}) {
		t.Error("the zero state may not be")
	}
	if !locks.Valid(api.State{Stores: -1, Time: -1, Config: api.Config{Epoch: -1, Members: []int{9}}}) {
		t.Error("a state may not be for what this layer doesn't look at")
	}
	for text, want := range map[string]bool{
		"---": true, "s--": true, "-s-": true, "ss-": true, "s-s": true, "sss": true, "X--": true, "-X-": true, "--X": true,
		"XX-": false, "X-X": false, "-XX": false, "XXX": false,
		"Xs-": false, "X-s": false, "sX-": false, "-Xs": false, "s-X": false, "-sX": false, "ssX": false, "Xss": false,
		"s-- 1X": true, "X-- 1s": true, "X-- 1X": true, "X-- 2s": true, "-X- 0s 2X": true, "--X 1s 0s": true,
		"X-- 1-": false, "X-- 0-": false, "X-- 1s 2-": false,
		"X-- 0s": false, "X-- 0X": false, "s-s 0s": false, "ss- 0X": true, "sss 1X": true, "sss 1X 2s": false,
		"X-- 1s 0X": false, "X-- 1s 0s": false, "X-- 1X 2X": true,
		"X-- 1s 1s": false, "X-- 1s 1X": false, "X-- 1X 1s": false, "X-- 1s 2s 1s": false, "X-- 1s 2X 2X": false,
		"--- 0s": false, "--- 2X": false, "s-- 0X": false, "s-- 1s": false, "ss- 2s": false, "-s- 1X 0X": false, "s-- 1s 2X": false,
		"s-- 1X 2s": true, "s-- 1X 0X": true, "s-- 1X 0X 2s": true, "ss- 2X 0X 1X": true, "sss 0X 1X 2X": true, "X-- 2X 1s": true,
	} {
		for lock := range nLocks {
			if got := locks.Valid(parse(text).into(api.State{}, lock)); got != want {
				t.Errorf("Valid(%d: %s): %v; want %v", lock, text, got, want)
			}
		}
	}
}

// amissRows are locks that may not be, most of them for one reason alone.
func amissRows() []plain {
	var all []plain
	for _, n := range append(farOff(), -1, 3) {
		m := api.Mode(n)
		all = append(all, plain{held: [3]api.Mode{m, 0, 0}}, plain{held: [3]api.Mode{0, m, 0}}, plain{held: [3]api.Mode{0, 0, m}})
		for i := range 2 {
			for _, h := range []api.Hold{{Lock: n, Mode: 2}, {Lock: n, Mode: 1}, {Lock: 1, Mode: m}, {Lock: 1, Mode: 2, Wanted: m}} {
				waits := []api.Hold{{Lock: 2, Mode: 1}, h}
				all = append(all, plain{[3]api.Mode{2, 0, 0}, waits[i:]})
			}
		}
	}
	for _, text := range []string{"XX-", "X-s", "-sX", "X-- 1-", "X-- 1X 2-", "X-- 0X", "ss- 0s", "ss- 0X 1s", "X-- 1s 1X", "X-- 1X 2X 1X", "--- 1s", "s-- 0X", "s-- 2s 1X"} {
		all = append(all, parse(text))
	}
	for _, wanted := range []api.Mode{1, 2} {
		all = append(all, plain{[3]api.Mode{2, 0, 0}, []api.Hold{{Lock: 1, Mode: 1, Wanted: wanted}}})
	}
	for _, h := range []api.Hold{{}, {Lock: 1}, {Lock: 1, Mode: 2}, {Lock: -1, Mode: 2}, {Lock: 1, Mode: 1}} {
		all = append(all, plain{[3]api.Mode{2, 0, 0}, slices.Repeat([]api.Hold{h}, 4)}, plain{[3]api.Mode{1, 0, 0}, slices.Repeat([]api.Hold{h}, 1<<16)})
	}
	return append(all, plain{waits: make([]api.Hold, 1<<20)})
}

// P9.1: numbers that are no mode, no server, and Wanted; long queues; at the first, the last and another lock, beside others that may well be.
func TestValidAmiss(t *testing.T) {
	full := randomState(rand.New(rand.NewSource(1)), goodRows())
	for _, p := range amissRows() {
		for _, lock := range []int{0, 7, 18} {
			for _, x := range []api.State{{}, full} {
				if locks.Valid(p.into(x, lock)) {
					t.Errorf("Valid(%d: %s)", lock, p.show())
				}
			}
		}
	}
	if !locks.Valid(full) {
		t.Error("a state of locks that may be may not be")
	}
	for lock := range nLocks {
		full.Queues[lock], full.Holders[lock] = []api.Hold{}, [3]api.Mode{}
	}
	if !locks.Valid(full) {
		t.Error("a state of empty queues may not be")
	}
}

// P9.1: Valid of all threes of modes and of what is none, by all queues of up to two of anything, and of up to four who could wait.
func TestValidAll(t *testing.T) {
	anything := queuesOf(2, waitersOf([]int{-1, 0, 1, 2, 3}, []api.Mode{-1, 0, 1, 2, 3}, []api.Mode{0, 1}))
	waiters := queuesOf(4, waitersOf([]int{0, 1, 2}, []api.Mode{1, 2}, []api.Mode{0}))
	good := 0
	check := func(p plain, lock int) {
		got := locks.Valid(p.into(api.State{}, lock))
		if got != p.mayBe() {
			t.Fatalf("Valid(%d: %s): %v", lock, p.show(), got)
		}
		if got {
			good++
		}
	}
	for i, held := range holdersOf(-1, 0, 1, 2, 3) {
		for k, waits := range anything {
			check(plain{held, waits}, (i+k)%nLocks)
		}
	}
	good = 0
	for i, held := range holdersOf(0, 1, 2) {
		for k, waits := range waiters {
			check(plain{held, waits}, (i+k)%nLocks)
		}
	}
	if good != 173 || len(goodRows()) != 173 {
		t.Errorf("a lock may be in %d ways, by the plain one in %d; want 173", good, len(goodRows()))
	}
}

// P9.2, P9.5: Ask, by rows written down: who has it at once, who waits, and where.
func TestAskRows(t *testing.T) {
	for _, c := range []struct {
		was    string
		server int
		mode   api.Mode
		want   string
	}{
		{"---", 0, shared, "s--"}, {"---", 2, sole, "--X"}, {"---", 1, sole, "-X-"},
		{"s--", 1, shared, "ss-"}, {"s-s", 1, shared, "sss"}, {"s--", 1, sole, "s-- 1X"}, {"ss-", 2, sole, "ss- 2X"},
		{"X--", 1, shared, "X-- 1s"}, {"X--", 1, sole, "X-- 1X"}, {"--X", 0, shared, "--X 0s"},
		{"s--", 0, shared, "s--"}, {"s--", 0, sole, "X--"}, {"--s", 2, sole, "--X"},
		{"X--", 0, shared, "X--"}, {"X--", 0, sole, "X--"},
		{"ss-", 0, shared, "ss-"}, {"ss-", 0, sole, "ss- 0X"}, {"sss", 2, sole, "sss 2X"},
		{"ss- 0X", 0, shared, "ss- 0X"}, {"ss- 0X", 0, sole, "ss- 0X"}, {"ss- 0X", 1, sole, "ss- 0X 1X"}, {"ss- 0X", 1, shared, "ss- 0X"},
		{"ss- 0X", 2, shared, "ss- 0X 2s"}, {"s-- 1X", 2, shared, "s-- 1X 2s"}, {"s-- 1X", 0, shared, "s-- 1X"}, {"s-- 1X", 0, sole, "s-- 1X 0X"},
		{"X-- 1s", 2, shared, "X-- 1s 2s"}, {"X-- 1X", 2, sole, "X-- 1X 2X"}, {"X-- 2s", 0, sole, "X-- 2s"}, {"X-- 2s", 0, shared, "X-- 2s"},
		{"X-- 1s", 1, sole, "X-- 1X"}, {"X-- 1s 2s", 1, sole, "X-- 1X 2s"}, {"X-- 1X 2s", 2, sole, "X-- 1X 2X"}, {"X-- 2s 1s", 1, sole, "X-- 2s 1X"},
		{"s-- 1X 2s", 2, sole, "s-- 1X 2X"}, {"s-- 1X 2s 0X", 2, sole, "s-- 1X 2X 0X"},
		{"X-- 1X", 1, shared, "X-- 1X"}, {"X-- 1X 2s", 1, shared, "X-- 1X 2s"}, {"X-- 1s", 1, shared, "X-- 1s"}, {"X-- 1s 2X", 2, shared, "X-- 1s 2X"},
	} {
		for _, lock := range []int{0, 3, 18} {
			x := parse(c.was).into(api.State{}, lock)
			got, err := locks.Ask(x, lock, c.server, c.mode)
			wantState(t, fmt.Sprintf("Ask(%s; %d, %d)", c.was, c.server, c.mode), got, err, parse(c.want).into(api.State{}, lock), 0)
		}
	}
}

// P9.2, P9.5: Free, by rows written down: who goes on, and up to whom.
func TestFreeRows(t *testing.T) {
	for _, c := range []struct {
		was    string
		server int
		want   string
	}{
		{"---", 0, "---"}, {"s--", 0, "---"}, {"s--", 1, "s--"}, {"ss-", 0, "-s-"}, {"--X", 2, "---"}, {"--X", 0, "--X"},
		{"X-- 1s", 0, "-s-"}, {"X-- 1s", 1, "X--"}, {"X-- 1s", 2, "X-- 1s"}, {"X-- 1X", 0, "-X-"},
		{"X-- 1s 2s", 0, "-ss"}, {"X-- 1s 2X", 0, "-s- 2X"}, {"X-- 1X 2s", 0, "-X- 2s"}, {"X-- 1X 2X", 0, "-X- 2X"},
		{"X-- 1X 2s", 1, "X-- 2s"}, {"X-- 1X 2s", 2, "X-- 1X"}, {"s-- 1X 2s", 1, "s-s"}, {"s-- 1X 2s", 2, "s-- 1X"}, {"s-- 1X 2s", 0, "-X- 2s"},
		{"s-s 1X", 0, "--s 1X"}, {"s-s 1X", 2, "s-- 1X"}, {"s-s 1X", 1, "s-s"},
		{"ss- 0X", 1, "X--"}, {"ss- 0X", 0, "-s-"}, {"ss- 0X", 2, "ss- 0X"}, {"sss 0X", 1, "s-s 0X"}, {"ss- 0X 2s", 1, "X-- 2s"}, {"ss- 0X 2s", 0, "-ss"},
		{"ss- 2X 0X", 0, "-s- 2X"}, {"ss- 2X 0X", 1, "s-- 2X 0X"}, {"ss- 2X 0X", 2, "ss- 0X"}, {"s-- 2X 0X", 0, "--X"}, {"s-- 2X 0X", 2, "X--"}, {"ss- 0X 1X", 0, "-X-"},
		{"s-- 1X 2s 0X", 1, "s-s 0X"}, {"s-- 1X 0X 2s", 1, "X-- 2s"}, {"s-- 1X 0X 2s", 0, "-X- 2s"}, {"sss 0X 1X 2X", 0, "-ss 1X 2X"},
	} {
		for _, lock := range []int{0, 11, 18} {
			x := parse(c.was).into(api.State{}, lock)
			got, err := locks.Free(x, lock, c.server)
			wantState(t, fmt.Sprintf("Free(%s; %d)", c.was, c.server), got, err, parse(c.want).into(api.State{}, lock), 0)
		}
	}
}

// P9.2 to P9.4: Ask, Free, Drop and Holds of every way in which a lock may be, beside the plain one, amid other locks and other fields at random, which stay.
func TestAllRows(t *testing.T) {
	rows := goodRows()
	rnd := rand.New(rand.NewSource(2))
	for i, p := range rows {
		lock := []int{0, 18, i % nLocks}[i%3]
		x := p.into(randomState(rnd, rows), lock)
		was := clone(x)
		for server := range nServers {
			for _, mode := range []api.Mode{shared, sole} {
				got, err := locks.Ask(x, lock, server, mode)
				wantState(t, fmt.Sprintf("Ask(%s; %d, %d)", p.show(), server, mode), got, err, p.ask(server, mode).into(was, lock), 0)
			}
			got, err := locks.Free(x, lock, server)
			wantState(t, fmt.Sprintf("Free(%s; %d)", p.show(), server), got, err, p.free(server).into(was, lock), 0)
			wantState(t, fmt.Sprintf("Drop(%s; %d)", showAll(x), server), locks.Drop(x, server), 0, plainDrop(was, server), 0)
			wantHolds(t, showAll(x), locks.Holds(x, server), plainHolds(was, server))
		}
		if !equal(x, was) {
			t.Fatalf("a call changes %s", showAll(was))
		}
	}
}

// P9.2: Ask and Free with numbers at and beside their bounds: ErrRange, and the zero state beside it (R3); what may just be is done.
func TestRange(t *testing.T) {
	full := randomState(rand.New(rand.NewSource(3)), goodRows())
	numbers := append(farOff(), -1, 0, 1, 2, 3, 4, 17, 18, 19)
	for _, x := range []api.State{{}, full} {
		for _, lock := range numbers {
			for _, server := range numbers {
				isThere := 0 <= lock && lock < 19 && 0 <= server && server < 3
				for _, mode := range numbers {
					want, wantErr := api.State{}, errRange
					if isThere && (mode == 1 || mode == 2) {
						want, wantErr = plainOf(x, lock).ask(server, api.Mode(mode)).into(x, lock), ok
					}
					got, err := locks.Ask(x, lock, server, api.Mode(mode))
					wantState(t, fmt.Sprintf("Ask(%d, %d, %d)", lock, server, mode), got, err, want, wantErr)
				}
				want, wantErr := api.State{}, errRange
				if isThere {
					want, wantErr = plainOf(x, lock).free(server).into(x, lock), ok
				}
				got, err := locks.Free(x, lock, server)
				wantState(t, fmt.Sprintf("Free(%d, %d)", lock, server), got, err, want, wantErr)
			}
		}
	}
}

// P9.2, P9.3: of states that may not be, the lock that is asked for or another one: ErrRange, nothing held; Drop answers them as they are.
func TestStatesAmiss(t *testing.T) {
	full := randomState(rand.New(rand.NewSource(4)), goodRows())
	for _, p := range amissRows() {
		for _, amiss := range []int{0, 18} {
			x := p.into(full, amiss)
			for _, lock := range []int{-1, 0, 5, 18, 19} {
				for server := -1; server <= 3; server++ {
					for mode := api.Mode(-1); mode <= 3; mode++ {
						got, err := locks.Ask(x, lock, server, mode)
						wantState(t, "Ask of a state that may not be", got, err, api.State{}, 2)
					}
					got, err := locks.Free(x, lock, server)
					wantState(t, "Free of a state that may not be", got, err, api.State{}, 2)
				}
			}
			for server := -1; server <= 3; server++ {
				wantHolds(t, "of a state that may not be", locks.Holds(x, server), nil)
			}
			server := len(p.waits)%5 - 1
			wantState(t, "Drop of a state that may not be", locks.Drop(x, server), 0, x, 0)
		}
	}
}

// P9.2: Drop of each server that holds and waits for many locks, and of those that there are not.
func TestDrop(t *testing.T) {
	was := []string{"X-- 1s 2s", "-X- 0s", "ss- 0X 2s", "---", "--X", "s-- 1X 2s", "-s- 0X 1X", "sss 0X 1X 2X", "--X 0X 1s"}
	want := [][]string{
		{"-ss", "-X-", "-ss", "---", "--X", "-X- 2s", "-X-", "-ss 1X 2X", "--X 1s"},
		{"X-- 2s", "s--", "X-- 2s", "---", "--X", "s-s", "X--", "s-s 0X 2X", "--X 0X"},
		{"X-- 1s", "-X- 0s", "ss- 0X", "---", "---", "s-- 1X", "-s- 0X 1X", "ss- 0X 1X", "X-- 1s"},
	}
	var x api.State
	for lock := range nLocks {
		x = parse(was[lock%len(was)]).into(x, lock)
	}
	for server, rows := range want {
		got := locks.Drop(x, server)
		for lock := range nLocks {
			wantRow(t, fmt.Sprintf("Drop of %d", server), got, lock, rows[lock%len(rows)])
		}
		if !locks.Valid(got) {
			t.Errorf("Drop of %d answers what may not be", server)
		}
	}
	for _, server := range append(farOff(), -1, 3) {
		wantState(t, fmt.Sprintf("Drop of %d", server), locks.Drop(x, server), 0, x, 0)
		wantState(t, fmt.Sprintf("Drop of %d", server), locks.Drop(api.State{}, server), 0, api.State{}, 0)
	}
	for server := range nServers {
		wantState(t, "Drop of the zero state", locks.Drop(api.State{}, server), 0, api.State{}, 0)
	}
}

// P9.3: Wanted, for each mode held and each first one that waits: nobody, itself, another one, with Shared and with Sole.
func TestHoldsWanted(t *testing.T) {
	for _, c := range []struct {
		row    string
		server int
		want   []api.Hold
	}{
		{"---", 0, nil}, {"s--", 1, nil}, {"X-- 1s", 1, nil}, {"X-- 1X", 2, nil},
		{"s--", 0, []api.Hold{{Mode: 1}}}, {"X--", 0, []api.Hold{{Mode: 2}}}, {"--X", 2, []api.Hold{{Mode: 2}}},
		{"ss- 0X", 0, []api.Hold{{Mode: 1}}}, {"ss- 0X", 1, []api.Hold{{Mode: 1, Wanted: 2}}}, {"sss 1X 0X", 1, []api.Hold{{Mode: 1}}}, {"sss 1X 0X", 2, []api.Hold{{Mode: 1, Wanted: 2}}}, {"sss 1X 0X", 0, []api.Hold{{Mode: 1, Wanted: 2}}},
		{"X-- 1s", 0, []api.Hold{{Mode: 2, Wanted: 1}}}, {"X-- 1X", 0, []api.Hold{{Mode: 2, Wanted: 2}}}, {"X-- 1s 2X", 0, []api.Hold{{Mode: 2, Wanted: 1}}}, {"X-- 2X 1s", 0, []api.Hold{{Mode: 2, Wanted: 2}}},
		{"s-- 2X", 0, []api.Hold{{Mode: 1, Wanted: 2}}}, {"s-- 2X 1s", 0, []api.Hold{{Mode: 1, Wanted: 2}}}, {"s-- 2X 0X", 0, []api.Hold{{Mode: 1, Wanted: 2}}}, {"s-- 2X", 2, nil},
	} {
		for _, lock := range []int{0, 9, 18} {
			want := slices.Clone(c.want)
			for i := range want {
				want[i].Lock = lock
			}
			wantHolds(t, fmt.Sprintf("%d: %s, of %d", lock, c.row, c.server), locks.Holds(parse(c.row).into(api.State{}, lock), c.server), want)
		}
	}
}

// P9.3: Holds of a server with some locks, with all 19, rising, and of those that there are not.
func TestHolds(t *testing.T) {
	var all api.State
	var want []api.Hold
	for lock := range nLocks {
		all = ask(t, all, 18-lock, 1, api.Mode(1+lock%2))
		all = ask(t, all, 18-lock, 2, sole)
		want = append(want, api.Hold{Lock: lock, Mode: api.Mode(1 + lock%2), Wanted: 2})
	}
	wantHolds(t, "all locks", locks.Holds(all, 1), want)
	wantHolds(t, "no lock", locks.Holds(all, 0), nil)
	wantHolds(t, "waits for all", locks.Holds(all, 2), nil)
	for _, server := range append(farOff(), -1, 3) {
		wantHolds(t, fmt.Sprintf("of server %d", server), locks.Holds(all, server), nil)
	}
	for lock := 0; lock < nLocks; lock += 2 {
		all = release(t, all, lock, 1)
	}
	want = slices.DeleteFunc(want, func(h api.Hold) bool { return h.Lock%2 == 0 })
	wantHolds(t, "some locks", locks.Holds(all, 1), want)
	wantHolds(t, "the others", locks.Holds(locks.Drop(all, 1), 2), func() (l []api.Hold) {
		for lock := range nLocks {
			l = append(l, api.Hold{Lock: lock, Mode: 2})
		}
		return l
	}())
}
