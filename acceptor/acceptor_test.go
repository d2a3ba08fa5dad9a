package acceptor_test

import (
	"fmt"
	"math"
	"slices"
	"strings"
	"testing"

	"lagoon/acceptor"
	"lagoon/api"
	"lagoon/store"
)

// Numbers that are neither a ballot nor a slot, and such as are both.
var (
	badCounts  = []int{math.MinInt, -1 << 40, -1 << 32, -2, -1, 0, maxCount + 1, maxCount + 2, 1<<40 + 1<<32, 1 << 41, 1 << 62, math.MaxInt - 1, math.MaxInt}
	goodCounts = []int{1, 2, 127, 128, 1 << 31, 1 << 32, maxCount - 1, maxCount}
)

// Values and states that are none.
var (
	badValues = []string{"", mixed(101, 1), mixed(102, 1), mixed(1100, 1), strings.Repeat("v", 1<<20)}
	badStates = []string{mixed(1101, 1), mixed(1102, 1), strings.Repeat("s", 1<<20)}
)

// someRecords make an acceptor that knows some.
func someRecords() []string {
	return []string{learnOf(3, "three"), acceptOf(7, "pending"), promiseOf(9)}
}

// some is what they make.
func some() known {
	return known{9, 3, "three", api.Accepted{Ballot: 7, Value: "pending"}}
}

// level is the same, with the promised ballot that of the value.
func level() known {
	return known{9, 3, "three", api.Accepted{Ballot: 9, Value: "pending"}}
}

// of is an acceptor that knows this, and its store; each starts with the state "s".
func of(t *testing.T, k known) (*acceptor.Acceptor, *store.Store) {
	t.Helper()
	s := holding(t, whole(k)...)
	return wantOpened(t, s, "s", k), s
}

// name tells which call it is.
func (c call) name() string {
	l := c.text[:min(len(c.text), 9)]
	switch c.kind {
	case 1:
		return fmt.Sprintf("Promise(%d)", c.n)
	case 2:
		return fmt.Sprintf("Accept(%d, %d, %q of %d bytes)", c.n, c.slot, l, len(c.text))
	}
	return fmt.Sprintf("Learn(%d, %q of %d bytes)", c.n, l, len(c.text))
}

// wantRefused wants a call on an acceptor to be answered so, with nothing changed and nothing written; the store is armed, so that a write would be told.
func wantRefused(t *testing.T, k known, c call, want api.Errno) {
	t.Helper()
	a, s := of(t, k)
	s.Arm(0)
	for range 2 {
		wantErr(t, c.name(), c.on(a), want)
		wantKnown(t, a, k)
		wantWrites(t, s, 0)
	}
	wantOpened(t, s, "s", k)
	wantRecords(t, s, 1, whole(k)...)
}

// wantWritten wants a call to go well, to write its record and nothing else, and to be durable.
func wantWritten(t *testing.T, k known, c call) {
	t.Helper()
	a, s := of(t, k)
	wantErr(t, c.name(), c.on(a), ok)
	wantKnown(t, a, c.changed(k))
	wantWrites(t, s, sectors(c.record()))
	wantRecords(t, s, 1, append(whole(k), c.record())...)
	wantOpened(t, s, "s", c.changed(k))
}

// The chapter's examples.
func TestExamples(t *testing.T) {
	s, err := store.New(need)
	wantErr(t, "store.New", err, ok)
	a := opened(t, s, "s")
	wantKnown(t, a, known{0, 0, "s", none})
	v := func(ballot int, value string) api.Accepted { return api.Accepted{Ballot: ballot, Value: value} }
	for _, x := range []struct {
		call call
		err  api.Errno
		want known
	}{
		{call{kind: 1, n: 5}, 0, known{5, 0, "s", none}},
		{call{kind: 1, n: 4}, 20, known{5, 0, "s", none}},
		{call{2, 5, 1, "v"}, 0, known{5, 0, "s", v(5, "v")}},
		{call{2, 5, 2, "w"}, 25, known{5, 0, "s", v(5, "v")}},
		{call{2, 5, 1, "w"}, 20, known{5, 0, "s", v(5, "v")}},
		{call{2, 6, 1, "w"}, 0, known{6, 0, "s", v(6, "w")}},
		{call{kind: 3, n: 1, text: "t"}, 0, known{6, 1, "t", none}},
		{call{kind: 3, n: 1, text: "u"}, 25, known{6, 1, "t", none}},
		{call{kind: 3, n: 4, text: "u"}, 0, known{6, 4, "u", none}},
	} {
		wantErr(t, x.call.name(), x.call.on(a), x.err)
		wantKnown(t, a, x.want)
	}
	wantOpened(t, s, "s", known{6, 4, "u", none})
	wantRecords(t, s, 1, "\x01\x05", "\x02\x05\x01v", "\x02\x06\x01w", "\x03\x01\x01t", "\x03\x04\x01u")
}

// P11.2: Promise of a ballot that is none, a lower one, the same and a higher one.
func TestPromise(t *testing.T) {
	for _, k := range []known{some(), level(), {state: "s"}, {promised: 9, state: "s"}} {
		for _, n := range badCounts {
			wantRefused(t, k, call{kind: 1, n: n}, errRange)
		}
		for n := 1; n < k.promised; n++ {
			wantRefused(t, k, call{kind: 1, n: n}, errBallot)
		}
		if k.promised > 0 {
			wantRefused(t, k, call{kind: 1, n: k.promised}, ok)
		}
		for _, n := range append([]int{k.promised + 1, k.promised + 2}, goodCounts[2:]...) {
			wantWritten(t, k, call{kind: 1, n: n})
		}
	}
	highest := known{promised: maxCount, state: "s"}
	wantRefused(t, highest, call{kind: 1, n: maxCount}, ok)
	wantRefused(t, highest, call{kind: 1, n: maxCount - 1}, errBallot)
	wantRefused(t, highest, call{kind: 1, n: maxCount + 1}, errRange)
}

// P11.2: Accept of what may not be: ErrRange ahead of all else, then a ballot below the promised one, then another slot than the next.
func TestAcceptRefused(t *testing.T) {
	for _, k := range []known{some(), level(), {state: "s"}, {promised: 9, state: "s"}, {done: 3, state: "t"}} {
		next, high := k.done+1, k.promised+1
		for _, n := range badCounts {
			wantRefused(t, k, call{2, n, next, "v"}, errRange)
			wantRefused(t, k, call{2, high, n, "v"}, errRange)
			wantRefused(t, k, call{2, 1, n, "v"}, errRange)
			wantRefused(t, k, call{2, n, next + 1, "v"}, errRange)
			wantRefused(t, k, call{2, n, n, ""}, errRange)
		}
		for _, v := range badValues {
			wantRefused(t, k, call{2, high, next, v}, errRange)
			wantRefused(t, k, call{2, 1, next, v}, errRange)
			wantRefused(t, k, call{2, high, next + 1, v}, errRange)
		}
		for n := 1; n < k.promised; n++ {
			for _, slot := range []int{1, next, next + 1, maxCount} {
				wantRefused(t, k, call{2, n, slot, "v"}, errBallot)
				wantRefused(t, k, call{2, n, slot, k.pending.Value + "x"}, errBallot)
			}
		}
		for _, slot := range []int{1, 2, 3, next - 1, next + 1, next + 2, next + 1<<32, maxCount - 1, maxCount} {
			if slot != next && slot > 0 {
				wantRefused(t, k, call{2, high, slot, "v"}, errStale)
				wantRefused(t, k, call{2, max(1, k.promised), slot, "pending"}, errStale)
				wantRefused(t, k, call{2, maxCount, slot, "v"}, errStale)
			}
		}
	}
	wantRefused(t, known{promised: 9, done: maxCount, state: "t"}, call{2, 9, maxCount, "v"}, errStale)
	wantRefused(t, known{promised: 9, done: maxCount, state: "t"}, call{2, 9, 1, "v"}, errStale)
	wantRefused(t, known{promised: 9, done: maxCount, state: "t"}, call{2, 9, maxCount + 1, "v"}, errRange)
}

// P11.2: Accept of the very same again writes nothing; behind a higher promise it is refused, and so is another value with the same ballot.
func TestAcceptAgain(t *testing.T) {
	wantRefused(t, level(), call{2, 9, 4, "pending"}, ok)
	wantRefused(t, some(), call{2, 7, 4, "pending"}, errBallot)
	for _, v := range []string{"p", "pendinG", "pending\x00", "\x00pending", "pendin", mixed(100, 1)} {
		wantRefused(t, level(), call{2, 9, 4, v}, 20)
		wantRefused(t, level(), call{2, 9, 5, v}, 25)
		wantRefused(t, some(), call{2, 7, 4, v}, 20)
	}
	wantRefused(t, level(), call{2, 9, 3, "pending"}, errStale)
	wantRefused(t, level(), call{2, 9, 5, "pending"}, errStale)
}

// P11.2: Accept of a value: of the promised ballot and of higher ones, in the place of none, of another value, and of the same one with a lower ballot.
func TestAccept(t *testing.T) {
	for _, k := range []known{some(), level(), {state: "s"}, {promised: 9, state: "s"}, {done: 3, state: "t"}, {done: maxCount - 1, state: "t"}} {
		for _, n := range append([]int{k.promised, k.promised + 1, k.promised + 2}, goodCounts[2:]...) {
			if n == 0 || n == k.pending.Ballot {
				continue
			}
			for _, v := range []string{"v", "\x00", "pending", mixed(46, 1), mixed(99, 2), mixed(100, 3)} {
				wantWritten(t, k, call{2, n, k.done + 1, v})
			}
		}
	}
}

// P11.2: Learn of a slot or a state that is none, of one that is done, of the next one, and of others far beyond.
func TestLearn(t *testing.T) {
	for _, k := range []known{some(), level(), {state: "s"}, {promised: 9, state: "s"}, {done: 3, state: "t"}} {
		for _, n := range badCounts {
			wantRefused(t, k, call{kind: 3, n: n, text: "u"}, errRange)
			wantRefused(t, k, call{kind: 3, n: n, text: badStates[0]}, errRange)
		}
		for _, state := range badStates {
			wantRefused(t, k, call{kind: 3, n: k.done + 1, text: state}, errRange)
			wantRefused(t, k, call{kind: 3, n: 1, text: state}, errRange)
		}
		for n := 1; n <= k.done; n++ {
			for _, state := range []string{"", k.state, "u", mixed(1100, 1)} {
				wantRefused(t, k, call{kind: 3, n: n, text: state}, errStale)
			}
		}
		for _, n := range append([]int{k.done + 1, k.done + 2}, goodCounts[2:]...) {
			for _, state := range []string{"", k.state, "\x00\xff", mixed(1099, 1), mixed(1100, 2)} {
				wantWritten(t, k, call{kind: 3, n: n, text: state})
			}
		}
	}
	last := known{promised: 9, done: maxCount, state: "t"}
	wantRefused(t, last, call{kind: 3, n: maxCount, text: "t"}, errStale)
	wantRefused(t, last, call{kind: 3, n: maxCount - 1, text: "t"}, errStale)
	wantRefused(t, last, call{kind: 3, n: maxCount + 1, text: "t"}, errRange)
}

// P11.2, P11.3: a row of calls, and what stands in the journal behind each.
func TestOneRecordEach(t *testing.T) {
	s := holding(t)
	a := opened(t, s, "s")
	var want []string
	k, writes := known{state: "s"}, 0
	for _, c := range []call{
		{kind: 1, n: 1}, {2, 1, 1, "a"}, {2, 2, 1, "b"}, {kind: 1, n: 300}, {2, 300, 1, mixed(100, 1)},
		{kind: 3, n: 1, text: mixed(1100, 1)}, {2, 300, 2, "c"}, {2, maxCount, 2, "d"}, {kind: 3, n: 2, text: ""},
		{2, maxCount, 3, "e"}, {kind: 3, n: maxCount - 1, text: "end"}, {2, maxCount, maxCount, "f"}, {kind: 3, n: maxCount, text: "all"},
	} {
		wantErr(t, c.name(), c.on(a), ok)
		k = c.changed(k)
		want = append(want, c.record())
		writes += sectors(c.record())
		wantKnown(t, a, k)
		wantWrites(t, s, writes)
		wantRecords(t, s, 1, want...)
		if c.kind < 3 {
			wantErr(t, c.name()+" again", c.on(a), ok)
			wantWrites(t, s, writes)
		}
	}
	wantOpened(t, s, "s", k)
}

// filled is the records that make something known, behind others, so many that the journal has room for just so many sectors more. The others tell what is told again by those behind them.
func filled(k known, room int) []string {
	l, used := whole(k), 0
	for _, r := range l {
		used += sectors(r)
	}
	var ahead []string
	for i := range area - used - room {
		if k.promised > 0 {
			ahead = append(ahead, promiseOf(1))
		} else {
			ahead = append(ahead, learnOf(i+1, ""))
		}
	}
	return append(ahead, l...)
}

// full is a store with these records, in the first generation.
func full(t *testing.T, k known, room int) *store.Store {
	t.Helper()
	s := holding(t, filled(k, room)...)
	wantOpened(t, s, "s", k)
	return s
}

// scenes are acceptors of which each part is known or not, short and long.
func scenes() []known {
	val, state := mixed(100, 1), mixed(1100, 2)
	return []known{
		{promised: 1, state: "s"},
		{promised: 300, state: "s"},
		some(),
		level(),
		{promised: 9, state: "s", pending: api.Accepted{Ballot: 9, Value: "v"}},
		{promised: 9, done: 300, state: state},
		{promised: 9, done: 3, state: ""},
		{done: 300, state: "t"},
		{promised: maxCount - 1, done: maxCount - 5, state: state, pending: api.Accepted{Ballot: maxCount - 2, Value: val}},
	}
}

// callsOn are calls that write, on an acceptor that knows this.
func callsOn(k known) []call {
	return []call{
		{kind: 1, n: k.promised + 1},
		{kind: 1, n: maxCount},
		{2, k.promised + 1, k.done + 1, "w"},
		{2, maxCount, k.done + 1, mixed(100, 4)},
		{kind: 3, n: k.done + 1, text: "next"},
		{kind: 3, n: maxCount - 1, text: mixed(1100, 5)},
	}
}

// P11.3: where the journal has just room enough, the record is appended; where it has less, what is known is written first by a Rewrite: the records 3, 2 and 1, those left out that tell nothing, and behind them the record.
func TestFull(t *testing.T) {
	for _, k := range scenes() {
		for _, c := range callsOn(k) {
			n := sectors(c.record())
			for room := n + 1; room >= 0; room-- {
				s := full(t, k, room)
				a := opened(t, s, "s")
				wantErr(t, c.name(), c.on(a), ok)
				wantKnown(t, a, c.changed(k))
				wantOpened(t, s, "s", c.changed(k))
				if room >= n {
					wantWrites(t, s, n)
					continue
				}
				all := append(whole(k), c.record())
				writes := 1
				for _, r := range all {
					writes += sectors(r)
				}
				wantWrites(t, s, writes)
				wantRecords(t, s, 2, all...)
			}
			if t.Failed() {
				t.Fatalf("%v: %s", brief(k), c.name())
			}
		}
	}
}

// P11.3: what writes nothing does so too where the journal is full.
func TestFullRefused(t *testing.T) {
	for _, k := range []known{some(), level()} {
		s := full(t, k, 0)
		a := opened(t, s, "s")
		for _, c := range refused(k) {
			wantErr(t, c.name(), c.on(a), c.err)
		}
		wantKnown(t, a, k)
		wantWrites(t, s, 0)
	}
}

// answered is a call, and what it answers.
type answered struct {
	call
	err api.Errno
}

// refused are calls that write nothing, on some or level.
func refused(k known) []answered {
	l := []answered{
		{call{kind: 1, n: 0}, errRange},
		{call{kind: 1, n: maxCount + 1}, errRange},
		{call{kind: 1, n: 8}, errBallot},
		{call{kind: 1, n: 9}, ok},
		{call{2, 10, 4, ""}, errRange},
		{call{2, 8, 9, "v"}, errBallot},
		{call{2, 8, 4, "pending"}, errBallot},
		{call{2, 7, 4, "pending"}, errBallot},
		{call{2, 9, 3, "v"}, errStale},
		{call{2, 10, 5, "v"}, errStale},
		{call{kind: 3, n: 4, text: mixed(1101, 1)}, errRange},
		{call{kind: 3, n: 3, text: "three"}, errStale},
		{call{kind: 3, n: 1, text: "three"}, errStale},
	}
	if k.pending.Ballot == k.promised {
		l = append(l, answered{call{2, 9, 4, "pending"}, ok}, answered{call{2, 9, 4, "other"}, errBallot})
	}
	return l
}

// P11.3: the journal's generation is the last one: where there is no room, the Rewrite's error is answered, and nothing is changed; what has room is written all the same.
func TestWorn(t *testing.T) {
	for _, k := range []known{some(), level()} {
		image := blank(need)
		image[0] = headOf(maxGen, 1)
		records := filled(k, 2)
		s := onto(t, image, records...)
		a := wantOpened(t, s, "s", k)
		for writes := range 3 {
			for _, c := range []call{{2, 20, 4, mixed(100, 1)}, {2, maxCount, 4, mixed(91, 1)}, {kind: 3, n: 4, text: mixed(1100, 1)}, {kind: 3, n: 9, text: mixed(94, 1)}} {
				wantErr(t, c.name(), c.on(a), 15)
				wantErr(t, c.name(), c.on(a), errWorn)
			}
			wantKnown(t, a, k)
			wantWrites(t, s, writes)
			wantOpened(t, s, "s", k)
			c := call{kind: 1, n: 10 + writes}
			if writes == 2 {
				wantErr(t, c.name(), c.on(a), errWorn)
				wantErr(t, "Promise of the same", a.Promise(k.promised), ok)
				break
			}
			wantErr(t, c.name(), c.on(a), ok)
			k = c.changed(k)
		}
		wantKnown(t, a, k)
		wantRecords(t, s, maxGen, append(records, promiseOf(10), promiseOf(11))...)
	}
}

// P11.3: a generation below the last one: one Rewrite goes well, the next one doesn't.
func TestWornAtLast(t *testing.T) {
	image := blank(need)
	image[1] = headOf(maxGen-1, 0)
	s := onto(t, image, filled(some(), 0)...)
	a := wantOpened(t, s, "s", some())
	k := some()
	for n := 10; n < 10+area-sectors(learnOf(3, "three"))-2; n++ {
		c := call{kind: 1, n: n}
		wantErr(t, c.name(), c.on(a), ok)
		k = c.changed(k)
	}
	wantErr(t, "Promise", a.Promise(1000), errWorn)
	wantErr(t, "Accept", a.Accept(1000, 4, "v"), errWorn)
	wantErr(t, "Learn", a.Learn(4, "t"), errWorn)
	wantErr(t, "Promise of the same", a.Promise(k.promised), ok)
	wantKnown(t, a, k)
	wantOpened(t, s, "s", k)
}

// nil *Acceptor: ErrNil ahead of all else; zeros.
func TestNil(t *testing.T) {
	var a *acceptor.Acceptor
	for _, n := range append(slices.Clone(badCounts), goodCounts...) {
		for _, s := range []string{"", "v", mixed(101, 1), mixed(1101, 1)} {
			wantErr(t, "Promise of nil", a.Promise(n), 1)
			wantErr(t, "Accept of nil", a.Accept(n, n, s), 1)
			wantErr(t, "Accept of nil", a.Accept(1, n, s), 1)
			wantErr(t, "Learn of nil", a.Learn(n, s), 1)
		}
	}
	wantKnown(t, a, known{})
}

// An acceptor that Open didn't make has zeros, and takes nothing.
func TestZero(t *testing.T) {
	var a acceptor.Acceptor
	if a.Promise(1) == ok || a.Accept(1, 1, "v") == ok || a.Learn(1, "t") == ok {
		t.Error("an acceptor on no store takes something")
	}
	wantErr(t, "Promise out of bounds", a.Promise(0), errRange)
	wantErr(t, "Accept of another slot", a.Accept(1, 2, "v"), errStale)
	wantKnown(t, &a, known{})
}

// R7: two acceptors on two stores don't touch each other.
func TestTwoAcceptors(t *testing.T) {
	a, sa := of(t, some())
	b, sb := of(t, known{state: "s"})
	wantErr(t, "Promise", a.Promise(20), ok)
	wantErr(t, "Learn", a.Learn(9, "nine"), ok)
	wantKnown(t, b, known{state: "s"})
	wantWrites(t, sb, 0)
	wantErr(t, "Accept", b.Accept(2, 1, "v"), ok)
	wantKnown(t, a, known{20, 9, "nine", none})
	sa.Arm(0)
	wantErr(t, "Promise with the power armed", a.Promise(21), errPower)
	wantErr(t, "Promise", b.Promise(4), ok)
	wantErr(t, "Learn", b.Learn(1, "t"), ok)
	wantKnown(t, a, known{20, 9, "nine", none})
	sa.Revive(0, true)
	wantOpened(t, sa, "s", known{20, 9, "nine", none})
	wantKnown(t, b, known{4, 1, "t", none})
	wantOpened(t, sb, "s", known{4, 1, "t", none})
}

// R7: an acceptor and its copy are two: what one is told, and its death, the other doesn't tell.
func TestCopy(t *testing.T) {
	a, s := of(t, some())
	other := *a
	wantErr(t, "Promise", a.Promise(20), ok)
	wantErr(t, "Learn", a.Learn(4, "four"), ok)
	wantKnown(t, &other, some())
	s.Arm(0)
	wantErr(t, "Promise with the power armed", a.Promise(21), errPower)
	s.Revive(0, false)
	wantErr(t, "Promise of a dead one", a.Promise(21), errPower)
	wantErr(t, "Promise", other.Promise(10), ok)
	wantKnown(t, a, known{20, 4, "four", none})
}
