package acceptor_test

import (
	"math"
	"slices"
	"strings"
	"testing"

	"lagoon/acceptor"
	"lagoon/api"
	"lagoon/journal"
	"lagoon/store"
)

// wantNone wants Open to answer an error, and no acceptor beside it (R3).
func wantNone(t *testing.T, what string, s *store.Store, start string, want api.Errno) {
	t.Helper()
	if a, err := acceptor.Open(s, start); a != nil || err != want {
		t.Errorf("Open of %s: %v, %d; want nil, %d", what, a, err, want)
	}
}

// P11.1: any text of at most 1100 bytes is a state with which an acceptor begins.
func TestOpenStart(t *testing.T) {
	for _, start := range []string{"", "s", "\x00", "\xff\x80", mixed(1099, 1), mixed(1100, 2), strings.Repeat("\x00", 1100)} {
		s := from(t, blank(need))
		wantKnown(t, opened(t, s, start), known{state: start})
		wantWrites(t, s, 1)
		wantRecords(t, s, 1)
		wantOpened(t, s, start, known{state: start})
	}
	for _, n := range []int{1101, 1102, 2000, 1 << 20} {
		s := from(t, blank(need))
		wantNone(t, "a start that is too long", s, mixed(n, 1), 2)
		wantWrites(t, s, 0)
	}
}

// P11.1: the start is the state of an acceptor that has no slot done alone: it isn't kept.
func TestOpenOtherStart(t *testing.T) {
	s := holding(t, acceptOf(3, "v"))
	wantOpened(t, s, "one", known{3, 0, "one", api.Accepted{Ballot: 3, Value: "v"}})
	a := wantOpened(t, s, "other", known{3, 0, "other", api.Accepted{Ballot: 3, Value: "v"}})
	wantErr(t, "Learn", a.Learn(1, "learned"), ok)
	for _, start := range []string{"one", "other", ""} {
		wantOpened(t, s, start, known{3, 1, "learned", none})
	}
}

// P11.1: what the journal refuses, in the order of the errors (R2); then nothing is written (R4).
func TestOpenRefused(t *testing.T) {
	long := mixed(1101, 1)
	wantNone(t, "nil", nil, "s", 1)
	wantNone(t, "nil, with a start that is none", nil, long, 2)
	wantNone(t, "a store of none", &store.Store{}, "s", 12)
	wantNone(t, "a store of none, with a start that is none", &store.Store{}, long, 2)
	for _, n := range []int{1, 2, 60, 62, 120, 121} {
		s := from(t, blank(n))
		wantNone(t, "too few sectors", s, "s", 12)
		wantNone(t, "too few sectors, with a start that is none", s, long, 2)
		s.Fail()
		wantNone(t, "too few sectors, without power", s, "s", 12)
		s.Revive(0, false)
		wantWrites(t, s, 0)
	}
	for _, n := range []int{122, 123, 512} {
		s := from(t, blank(n))
		s.Fail()
		wantNone(t, "a store without power", s, "s", 13)
		wantNone(t, "a store without power, with a start that is none", s, long, 2)
		s.Revive(0, false)
		wantWrites(t, s, 0)
		wantKnown(t, opened(t, s, "s"), known{state: "s"})
		wantWrites(t, s, 1)
	}
	bad := holding(t, "")
	wantNone(t, "a record that may not be, with a start that is none", bad, long, 2)
	bad.Fail()
	wantNone(t, "a record that may not be, without power", bad, "s", 13)
	bad.Revive(0, false)
	wantNone(t, "a record that may not be", bad, "s", 14)
	wantWrites(t, bad, 0)
}

// P11.1: the power fails at the journal's first write.
func TestOpenFails(t *testing.T) {
	for keep := range 2 {
		s := from(t, blank(need))
		s.Arm(0)
		wantNone(t, "a store that fails", s, "s", 13)
		wantNone(t, "a store without power", s, "s", 13)
		s.Revive(keep, true)
		wantKnown(t, opened(t, s, "s"), known{state: "s"})
	}
}

// P11.1: records that make an acceptor, of one with the state "s".
func TestOpenRecords(t *testing.T) {
	v := func(ballot int, value string) api.Accepted { return api.Accepted{Ballot: ballot, Value: value} }
	val, state := mixed(100, 1), mixed(1100, 2)
	for _, c := range []struct {
		what    string
		records []string
		want    known
	}{
		{"none", nil, known{0, 0, "s", none}},
		{"a promise", []string{promiseOf(1)}, known{1, 0, "s", none}},
		{"the highest promise", []string{promiseOf(maxCount)}, known{maxCount, 0, "s", none}},
		{"promises that grow", []string{promiseOf(1), promiseOf(2), promiseOf(128)}, known{128, 0, "s", none}},
		{"the same promise again", []string{promiseOf(5), promiseOf(5), promiseOf(5)}, known{5, 0, "s", none}},
		{"a value", []string{acceptOf(1, "v")}, known{1, 0, "s", v(1, "v")}},
		{"a value of any bytes", []string{acceptOf(300, "\x00\xff")}, known{300, 0, "s", v(300, "\x00\xff")}},
		{"a value of 100 bytes, of the highest ballot", []string{acceptOf(maxCount, val)}, known{maxCount, 0, "s", v(maxCount, val)}},
		{"a value that was promised", []string{promiseOf(5), acceptOf(5, "v")}, known{5, 0, "s", v(5, "v")}},
		{"a value above the promise", []string{promiseOf(5), acceptOf(6, "v")}, known{6, 0, "s", v(6, "v")}},
		{"a promise above the value", []string{acceptOf(6, "v"), promiseOf(9)}, known{9, 0, "s", v(6, "v")}},
		{"a promise of the value's ballot", []string{acceptOf(6, "v"), promiseOf(6)}, known{6, 0, "s", v(6, "v")}},
		{"a value in another's place", []string{acceptOf(6, "v"), acceptOf(7, "w")}, known{7, 0, "s", v(7, "w")}},
		{"the same value again", []string{acceptOf(6, "v"), acceptOf(6, "v")}, known{6, 0, "s", v(6, "v")}},
		{"another value with the same ballot", []string{acceptOf(6, "v"), acceptOf(6, "w")}, known{6, 0, "s", v(6, "w")}},
		{"a slot", []string{learnOf(1, "t")}, known{0, 1, "t", none}},
		{"a slot without a state's bytes", []string{learnOf(1, "")}, known{0, 1, "", none}},
		{"a state of 1100 bytes, of the highest slot", []string{learnOf(maxCount, state)}, known{0, maxCount, state, none}},
		{"slots passed over", []string{learnOf(1, "t"), learnOf(5, "u"), learnOf(maxCount-1, "x")}, known{0, maxCount - 1, "x", none}},
		{"a slot that drops the value", []string{acceptOf(3, "v"), learnOf(1, "t")}, known{3, 1, "t", none}},
		{"a slot far off that drops the value", []string{acceptOf(3, "v"), promiseOf(4), learnOf(77, "t")}, known{4, 77, "t", none}},
		{"a value behind a slot", []string{acceptOf(3, "v"), learnOf(1, "t"), acceptOf(3, "w")}, known{3, 1, "t", v(3, "w")}},
		{"a value behind the highest slot", []string{learnOf(maxCount, "t"), acceptOf(3, "w")}, known{3, maxCount, "t", v(3, "w")}},
		{"as a Rewrite has them", []string{learnOf(9, state), acceptOf(4, val), promiseOf(8)}, known{8, 9, state, v(4, val)}},
	} {
		s := holding(t, c.records...)
		s.Arm(0)
		wantOpened(t, s, "s", c.want)
		wantRecords(t, s, 1, c.records...)
		if t.Failed() {
			t.Fatal(c.what)
		}
	}
}

// badRecords are such as may not be, with nothing ahead of them that would forbid it.
func badRecords() map[string]string {
	val, state := mixed(100, 1), mixed(1100, 2)
	return map[string]string{
		"no bytes":                          "",
		"kind 0":                            "\x00\x01",
		"kind 0, with a text":               "\x00\x01\x01v",
		"kind 4":                            "\x04\x01",
		"kind 4, with a text":               "\x04\x01\x01v",
		"kind 4, with a text, as promised":  "\x04\x09\x01v",
		"kind 127":                          number(127) + "\x09\x01v",
		"a kind far off":                    number(math.MaxInt) + "\x09\x01v",
		"a kind of 33 bits, 2 at the end":   number(1<<32+2) + "\x09\x01v",
		"a kind of 9 bits, 1 at the end":    number(257) + "\x09",
		"kind 1 alone":                      "\x01",
		"kind 2 alone":                      "\x02",
		"kind 3 alone":                      "\x03",
		"a promise of 0":                    promiseOf(0),
		"a promise above MaxCount":          promiseOf(maxCount + 1),
		"a promise far above":               promiseOf(math.MaxInt),
		"a promise cut short":               promiseOf(300)[:2],
		"a promise and a byte":              promiseOf(9) + "\x00",
		"a promise and a value":             promiseOf(9) + text("v"),
		"a promise twice":                   promiseOf(9) + promiseOf(9),
		"a promise in a longer form":        "\x01\x89\x00",
		"a promise of a kind in one":        "\x81\x00\x09",
		"a promise in ten bytes":            "\x01\x89\x80\x80\x80\x80\x80\x80\x80\x80\x00",
		"a value with ballot 0":             acceptOf(0, "v"),
		"a value with one above MaxCount":   acceptOf(maxCount+1, "v"),
		"a value with one far above":        acceptOf(math.MaxInt, "v"),
		"a value of no bytes":               acceptOf(9, ""),
		"a value of 101 bytes":              acceptOf(9, mixed(101, 1)),
		"a value of a state's length":       acceptOf(9, state[:1000]),
		"a value without a text":            "\x02\x09",
		"a value cut short":                 acceptOf(9, val)[:102],
		"a value and a byte":                acceptOf(9, "v") + "v",
		"a value and a zero":                acceptOf(9, val) + "\x00",
		"a value with a longer ballot":      "\x02\x89\x00\x01v",
		"a value with a longer length":      "\x02\x09\x81\x00v",
		"a value of a kind in a longer one": "\x82\x00\x09\x01v",
		"a value of a length far off":       "\x02\x09" + number(math.MaxInt) + "v",
		"slot 0":                            learnOf(0, "t"),
		"a slot above MaxCount":             learnOf(maxCount+1, "t"),
		"a slot far above":                  learnOf(math.MaxInt, "t"),
		"a state of 1101 bytes":             learnOf(9, mixed(1101, 1)),
		"a state without a text":            "\x03\x09",
		"a state cut short":                 learnOf(9, state)[:1103],
		"a state cut far shorter":           learnOf(9, state)[:5],
		"a state and a byte":                learnOf(9, "t") + "t",
		"a state and a zero":                learnOf(9, state) + "\x00",
		"a state with a longer slot":        "\x03\x89\x00\x01t",
		"a state with a longer length":      "\x03\x09\x81\x00t",
		"a state of no bytes, and one":      learnOf(9, "") + "\x00",
		"a state of a kind in a longer one": "\x83\x00\x09\x01t",
		"a state of a length far off":       "\x03\x09" + number(math.MaxInt) + "t",
	}
}

// P11.1: records that aren't just so: alone, and behind and ahead of good ones.
func TestOpenBadRecords(t *testing.T) {
	ahead := []string{promiseOf(1), acceptOf(2, "v"), learnOf(3, "t")}
	behind := []string{promiseOf(20), acceptOf(21, "w"), learnOf(22, "u")}
	for what, r := range badRecords() {
		for _, records := range [][]string{{r}, append(slices.Clone(ahead), r), append([]string{r}, behind...), slices.Concat(ahead, []string{r}, behind)} {
			s := holding(t, records...)
			wantNone(t, what, s, "s", errRecord)
			wantWrites(t, s, 0)
			wantRecords(t, s, 1, records...)
		}
	}
}

// P11.1: records that may be alone, but not behind those ahead.
func TestOpenForbidden(t *testing.T) {
	for what, records := range map[string][]string{
		"a lower promise":                              {promiseOf(5), promiseOf(4)},
		"a far lower promise":                          {promiseOf(maxCount), promiseOf(1)},
		"a promise below the value's":                  {acceptOf(5, "v"), promiseOf(4)},
		"a promise below, behind a slot":               {acceptOf(5, "v"), learnOf(1, "t"), promiseOf(4)},
		"a value below the promise":                    {promiseOf(5), acceptOf(4, "v")},
		"a value below the value's":                    {acceptOf(5, "v"), acceptOf(4, "v")},
		"the same value behind a promise":              {acceptOf(5, "v"), promiseOf(6), acceptOf(5, "v")},
		"a value below, behind a slot":                 {promiseOf(5), learnOf(1, "t"), acceptOf(4, "v")},
		"a slot that is done":                          {learnOf(1, "t"), learnOf(1, "t")},
		"a slot that is done, of another state":        {learnOf(4, "t"), learnOf(4, "u")},
		"a slot below":                                 {learnOf(4, "t"), learnOf(3, "u")},
		"a slot behind the last one":                   {learnOf(maxCount, "t"), learnOf(1, "u")},
		"a slot that is done, behind others":           {learnOf(2, "t"), promiseOf(9), acceptOf(9, "v"), learnOf(2, "t")},
		"a promise below, with good ones behind":       {promiseOf(5), promiseOf(4), promiseOf(9), learnOf(1, "t")},
		"a slot below, with good ones behind":          {learnOf(4, "t"), learnOf(3, "u"), learnOf(5, "u")},
		"a Rewrite's in another order":                 {promiseOf(8), acceptOf(4, "v"), learnOf(9, "t")},
		"a slot that is done, and a promise below one": {learnOf(1, "t"), promiseOf(2), learnOf(1, "t"), promiseOf(1)},
	} {
		s := holding(t, records...)
		wantNone(t, what, s, "s", 14)
		wantWrites(t, s, 0)
		wantRecords(t, s, 1, records...)
	}
}

// P11.1: the records are those of the area that the journal's head names, wherever it stands, and of none beside.
func TestOpenArea(t *testing.T) {
	s := holding(t, promiseOf(1), "none's record")
	j, _, err := journal.Open(s)
	wantErr(t, "journal.Open", err, ok)
	wantNone(t, "a record that may not be", s, "s", errRecord)
	wantErr(t, "Rewrite", j.Rewrite(lists([]string{learnOf(4, "t"), promiseOf(7)})), ok)
	wantOpened(t, s, "s", known{7, 4, "t", none})
	for _, gen := range []int{maxGen - 1, maxGen} {
		for area := range 2 {
			image := blank(need + 1)
			image[gen%2] = headOf(gen, area)
			wantOpened(t, onto(t, image, acceptOf(6, "v")), "s", known{6, 0, "s", api.Accepted{Ballot: 6, Value: "v"}})
		}
	}
}
