package journal_test

import (
	"math/rand"
	"slices"
	"testing"

	"lagoon/api"
	"lagoon/journal"
	"lagoon/store"
)

// call is one of a journal that writes: Append of a record, or Rewrite.
type call struct {
	rewrite bool
	records []string
}

// on makes the call.
func (c call) on(j *journal.Journal) api.Errno {
	if c.rewrite {
		return j.Rewrite(lists(c.records...))
	}
	return j.Append([]byte(c.records[0]))
}

// writes is how many sectors the call writes.
func (c call) writes() int {
	if c.rewrite {
		return sectorsOf(c.records...) + 1
	}
	return sectorsOf(c.records...)
}

// behind is the records behind the call.
func (c call) behind(before []string) []string {
	if c.rewrite {
		return c.records
	}
	return append(slices.Clone(before), c.records...)
}

// beginnings are images of journals that have come about in several ways.
func beginnings(t *testing.T) [][][]byte {
	t.Helper()
	j, s := fresh(t)
	l := [][][]byte{blank(need), s.Image()}
	appended(t, j, "a", mixed(100, 1), "")
	l = append(l, s.Image())
	rewritten(t, j, mixed(50, 2), "b")
	l = append(l, s.Image())
	appended(t, j, mixed(95, 3))
	s.Arm(2)
	j.Rewrite(lists("never", mixed(94, 4), "there"))
	s.Revive(2, true)
	l = append(l, s.Image())
	j, _ = opened(t, s)
	s.Arm(1)
	j.Append([]byte(mixed(141, 5)))
	s.Revive(1, true)
	l = append(l, s.Image())
	j, _ = opened(t, s)
	rewritten(t, j, "d")
	s.Arm(0)
	j.Append([]byte("torn"))
	s.Revive(0, true)
	return append(l, s.Image())
}

// calls are those in which the power fails.
func calls() []call {
	return []call{
		{false, []string{""}},
		{false, []string{"x"}},
		{false, []string{mixed(47, 7)}},
		{false, []string{mixed(48, 7)}},
		{false, []string{mixed(141, 7)}},
		{false, []string{mixed(1128, 7)}},
		{true, nil},
		{true, []string{""}},
		{true, []string{"x", "y", "z"}},
		{true, []string{mixed(141, 8), "", mixed(48, 9)}},
		{true, []string{mixed(1128, 8), mixed(60, 9)}},
	}
}

// P5.5, P5.2, P5.3: the power fails at each write of each call in turn, and is revived in every way: the records are all, or all but the last call's, and the journal goes on.
func TestPowerFails(t *testing.T) {
	for _, image := range beginnings(t) {
		for _, c := range calls() {
			for k := range c.writes() {
				for _, keep := range keeps(k) {
					failAt(t, image, c, k, keep, false)
					failAt(t, image, c, k, keep, true)
				}
			}
			if t.Failed() {
				t.Fatalf("the call %v", c)
			}
		}
	}
}

// keeps are how many of k + 1 pending writes are kept: of few all there may be, of many those at the edges.
func keeps(k int) []int {
	if k > 6 {
		return []int{0, 1, k / 2, k, k + 1}
	}
	var l []int
	for keep := range k + 2 {
		l = append(l, keep)
	}
	return l
}

// failAt lets the power fail at one write of a call.
func failAt(t *testing.T, image [][]byte, c call, k, keep int, torn bool) {
	t.Helper()
	s := from(t, image)
	j, before := opened(t, s)
	gen, records, room, writes := j.Gen(), j.Records(), j.Room(), s.Writes()
	s.Arm(k)
	wantErr(t, "the call", c.on(j), api.ErrPower)
	if s.Writes() != writes+k+1 {
		t.Errorf("%d writes till the power failed; want %d", s.Writes()-writes, k+1)
	}
	wantTold(t, j, gen, records, room)
	whole := keep > 0 && keep >= s.Pending() && k == c.writes()-1
	s.Revive(keep, torn)
	revived, writes := s.Image(), s.Writes()
	wantErr(t, "Append to a dead journal", j.Append(nil), api.ErrPower)
	wantErr(t, "Rewrite of a dead journal", j.Rewrite(nil), api.ErrPower)
	wantStill(t, s, revived, writes)
	want := before
	if whole {
		want = c.behind(before)
	}
	again, now := opened(t, s)
	if !slices.Equal(now, want) {
		t.Errorf("write %d, keep %d, torn %v: %q; want %q", k, keep, torn, now, want)
	}
	wantStill(t, s, revived, writes)
	wantGoesOn(t, s, again, want)
}

// wantGoesOn appends to a journal, replaces its records, and wants each to be there.
func wantGoesOn(t *testing.T, s *store.Store, j *journal.Journal, now []string) {
	t.Helper()
	for _, c := range []call{{false, []string{"on"}}, {false, []string{mixed(94, 1)}}, {true, []string{"new", mixed(48, 2)}}, {false, []string{"and"}}, {true, []string{"last"}}} {
		wantErr(t, "a call behind a failing power", c.on(j), api.OK)
		now = c.behind(now)
		wantRecords(t, s, j.Gen(), now...)
	}
}

// P5.5, P5.1: the power fails at Open's own write, and Open is all that there was.
func TestPowerFailsAtOpen(t *testing.T) {
	for _, torn := range []bool{false, true} {
		for keep := -1; keep <= 2; keep++ {
			s := from(t, blank(need))
			for range 3 {
				s.Arm(0)
				j, l, err := journal.Open(s)
				if err == api.OK && keep > 0 {
					s.Fail()
				} else if j != nil || len(l) != 0 || err != api.ErrPower {
					t.Errorf("Open: %v, %q, %d", j, l, err)
				}
				s.Revive(keep, torn)
			}
			s.Arm(-1)
			wantGoesOn(t, s, wantRecords(t, s, 1), nil)
		}
	}
}

// P5.5: the power fails again and again, in calls on what was revived before, and each time all, or all but the last call, is there.
func TestPowerFailsOften(t *testing.T) {
	for seed := range int64(60) {
		rnd := rand.New(rand.NewSource(seed))
		s := from(t, blank(need))
		var now []string
		for step := range 60 {
			j, l, err := journal.Open(s)
			if err == api.OK && !slices.Equal(texts(l), now) {
				t.Fatalf("seed %d, step %d: %q; want %q", seed, step, l, now)
			}
			s.Arm(rnd.Intn(30))
			may := playTillOff(rnd, j, now)
			s.Fail()
			s.Revive(rnd.Intn(8)-1, rnd.Intn(2) == 0)
			_, l, err = journal.Open(s)
			if err != api.OK || !slices.ContainsFunc(may, func(r []string) bool { return slices.Equal(r, texts(l)) }) {
				t.Fatalf("seed %d, step %d: %q, %d; want one of %q", seed, step, l, err, may)
			}
			now = texts(l)
		}
	}
}

// playTillOff makes calls till one fails, and answers what the records may be then.
func playTillOff(rnd *rand.Rand, j *journal.Journal, now []string) [][]string {
	long := []int{0, 1, 47, 48, 94, 95, 200, 400}
	for range 8 {
		c := call{rnd.Intn(3) == 0, []string{mixed(long[rnd.Intn(8)], rnd.Intn(256))}}
		for c.rewrite && rnd.Intn(3) > 0 {
			c.records = append(c.records, mixed(long[rnd.Intn(7)], rnd.Intn(256)))
		}
		switch c.on(j) {
		case api.OK:
			now = c.behind(now)
		case api.ErrPower:
			return [][]string{now, c.behind(now)}
		}
	}
	return [][]string{now}
}

// P5.2 to P5.4: a dead journal answers ErrPower ahead of all else (R2), tells what it told, and stays dead with the power on.
func TestDead(t *testing.T) {
	for _, c := range []call{{false, []string{mixed(100, 1)}}, {true, []string{"x", "y"}}} {
		j, s := fresh(t)
		appended(t, j, "a", mixed(50, 1))
		s.Arm(1)
		wantErr(t, "the call", c.on(j), 13)
		for range 2 {
			for _, n := range []int{0, 1, 1128, 1129, 5000} {
				wantErr(t, "Append to a dead journal", j.Append(make([]byte, n)), api.ErrPower)
				wantErr(t, "Rewrite of a dead journal", j.Rewrite(slices.Repeat([][]byte{make([]byte, n)}, 61)), api.ErrPower)
			}
			wantErr(t, "Rewrite of a dead journal", j.Rewrite(nil), 13)
			wantTold(t, j, 1, 2, 57)
			s.Revive(0, false)
		}
		if s.Pending() != 0 || s.Off() {
			t.Error("a dead journal writes")
		}
		again := wantRecords(t, s, 1, "a", mixed(50, 1))
		appended(t, again, "b")
		wantErr(t, "Append to the dead one of two journals", j.Append(nil), api.ErrPower)
		wantTold(t, j, 1, 2, 57)
	}
}

// A journal is dead once a call on its store has answered ErrPower to it: what it refuses ahead of that (R2), and a power that was off meanwhile, leave it as it is.
func TestNotDead(t *testing.T) {
	j, s := fresh(t)
	appended(t, j, mixed(1128, 1), mixed(1128, 2))
	s.Fail()
	wantErr(t, "Append with the power off", j.Append(make([]byte, 1129)), api.ErrRange)
	wantErr(t, "Append with the power off", j.Append(make([]byte, 1128)), api.ErrSpace)
	wantErr(t, "Rewrite with the power off", j.Rewrite([][]byte{make([]byte, 1129)}), api.ErrRange)
	wantErr(t, "Rewrite with the power off", j.Rewrite(make([][]byte, 61)), api.ErrSpace)
	wantTold(t, j, 1, 2, 12)
	s.Revive(0, true)
	appended(t, j, "on")
	s.Fail()
	s.Revive(0, true)
	rewritten(t, j, "and on")
	wantRecords(t, s, 2, "and on")
}

// P5.2, P5.3: with the power off a call that would write answers ErrPower, and the journal is dead; one that is worn for sure writes nothing.
func TestPowerOff(t *testing.T) {
	for _, c := range []call{{false, []string{"x"}}, {false, []string{""}}, {true, nil}, {true, []string{"x"}}} {
		j, s := fresh(t)
		appended(t, j, "a")
		s.Fail()
		wantErr(t, "the call", c.on(j), api.ErrPower)
		wantTold(t, j, 1, 1, 59)
		s.Revive(0, false)
		wantErr(t, "the call of a dead journal", c.on(j), api.ErrPower)
		wantErr(t, "Append to a dead journal", j.Append(nil), api.ErrPower)
		wantRecords(t, s, 1, "a")
	}
	s := from(t, with(blank(need), 0, headOf(maxGen, 1)))
	j := wantRecords(t, s, maxGen)
	s.Fail()
	wantErr(t, "Rewrite of a worn journal", j.Rewrite(lists("x")), api.ErrWorn)
	s.Revive(0, false)
	appended(t, j, "on")
	wantRecords(t, s, maxGen, "on")
}

// P5.5: the last generation that there is: the power fails, and behind it nothing but Append goes on.
func TestPowerFailsAtTheLast(t *testing.T) {
	for keep := range 2 {
		s := from(t, with(with(blank(need), 1, headOf(maxGen-1, 0)), 2, wholes(maxGen-1, "old")...))
		j := wantRecords(t, s, maxGen-1, "old")
		s.Arm(1)
		wantErr(t, "Rewrite", j.Rewrite(lists("new")), api.ErrPower)
		s.Revive(keep, true)
		if keep == 1 {
			j = wantRecords(t, s, maxGen, "new")
		} else {
			j = wantRecords(t, s, maxGen-1, "old")
		}
		wantErr(t, "Rewrite of a worn journal", j.Rewrite(lists("x")), api.ErrWorn)
		appended(t, j, "on")
	}
}
