package acceptor_test

import (
	"bytes"
	"encoding/binary"
	"hash/crc32"
	"math"
	"math/rand"
	"slices"
	"testing"

	"lagoon/acceptor"
	"lagoon/api"
	"lagoon/journal"
	"lagoon/store"
)

// The numbers, as the document tells them.
const (
	need      = 122
	area      = 60
	partBytes = 47
	maxCount  = 1 << 40
	maxGen    = 1 << 30
	mostValue = 100
	mostState = 1100
)

// The errors, as the document tells them.
const (
	ok        api.Errno = 0
	errNil    api.Errno = 1
	errRange  api.Errno = 2
	errSpace  api.Errno = 12
	errPower  api.Errno = 13
	errRecord api.Errno = 14
	errWorn   api.Errno = 15
	errBallot api.Errno = 20
	errStale  api.Errno = 25
)

// none is what is accepted, where nothing is.
var none = api.Accepted{}

// known is all that an acceptor tells.
type known struct {
	promised, done int
	state          string
	pending        api.Accepted
}

// told is what an acceptor tells.
func told(a *acceptor.Acceptor) known {
	return known{a.Promised(), a.Done(), a.State(), a.Pending()}
}

// number is a number's form, as chapter 1 has it.
func number(n int) string {
	return string(binary.AppendUvarint(nil, uint64(n)))
}

// text is a text's form.
func text(s string) string {
	return number(len(s)) + s
}

// The records, as the chapter has them.
func promiseOf(ballot int) string              { return number(1) + number(ballot) }
func acceptOf(ballot int, value string) string { return number(2) + number(ballot) + text(value) }
func learnOf(slot int, state string) string    { return number(3) + number(slot) + text(state) }

// mixed is a text of n bytes that hangs on x.
func mixed(n, x int) string {
	b := make([]byte, n)
	for i := range b {
		b[i] = byte(x*31 + i*7)
	}
	return string(b)
}

// sectors is how many sectors a record takes.
func sectors(r string) int {
	return max(1, (len(r)+partBytes-1)/partBytes)
}

// lists is records as the journal takes them.
func lists(l []string) [][]byte {
	var out [][]byte
	for _, r := range l {
		out = append(out, []byte(r))
	}
	return out
}

// blank is so many sectors of zeros.
func blank(n int) [][]byte {
	image := make([][]byte, n)
	for i := range image {
		image[i] = make([]byte, 64)
	}
	return image
}

// headOf is a head that names a generation and an area, as chapter 5 has it.
func headOf(gen, area int) []byte {
	b := make([]byte, 60)
	binary.LittleEndian.PutUint32(b, uint32(gen))
	b[9], b[10], b[11] = 1, 1, byte(area)
	return binary.LittleEndian.AppendUint32(b, crc32.Checksum(b, crc32.MakeTable(crc32.Castagnoli)))
}

// from is a store of these sectors.
func from(t *testing.T, image [][]byte) *store.Store {
	t.Helper()
	s, err := store.From(image)
	if s == nil || err != ok {
		t.Fatalf("store.From of %d sectors: %d", len(image), err)
	}
	return s
}

// holding is a store with these records, written by the journal of a new one.
func holding(t *testing.T, records ...string) *store.Store {
	t.Helper()
	return onto(t, blank(need), records...)
}

// onto is a store of these sectors, with records that were appended to its journal. Its writes are counted anew.
func onto(t *testing.T, image [][]byte, records ...string) *store.Store {
	t.Helper()
	s := from(t, image)
	j, _, err := journal.Open(s)
	wantErr(t, "journal.Open", err, ok)
	for _, r := range records {
		wantErr(t, "the journal's Append", j.Append([]byte(r)), ok)
	}
	return from(t, s.Image())
}

// opened opens an acceptor, and wants it to go well.
func opened(t *testing.T, s *store.Store, start string) *acceptor.Acceptor {
	t.Helper()
	a, err := acceptor.Open(s, start)
	if a == nil || err != ok {
		t.Fatalf("Open: %v, %d", a, err)
	}
	return a
}

// wantErr holds an error against the one that should be.
func wantErr(t *testing.T, call string, got, want api.Errno) {
	t.Helper()
	if got != want {
		t.Errorf("%s: %d; want %d", call, got, want)
	}
}

// wantKnown holds what an acceptor tells against what it should.
func wantKnown(t *testing.T, a *acceptor.Acceptor, want known) {
	t.Helper()
	if is := told(a); is != want {
		t.Errorf("it tells %v; want %v", brief(is), brief(want))
	}
}

// wantOpened opens an acceptor, and holds what it tells against what it should; nothing is written.
func wantOpened(t *testing.T, s *store.Store, start string, want known) *acceptor.Acceptor {
	t.Helper()
	writes := s.Writes()
	a := opened(t, s, start)
	wantKnown(t, a, want)
	wantWrites(t, s, writes)
	return a
}

// wantWrites wants a store to have been written so often, and nothing to be pending.
func wantWrites(t *testing.T, s *store.Store, writes int) {
	t.Helper()
	if s.Writes() != writes || s.Pending() != 0 {
		t.Errorf("%d writes, %d pending; want %d, 0", s.Writes(), s.Pending(), writes)
	}
}

// wantRecords holds what stands in a store's journal against the records that should, and its generation.
func wantRecords(t *testing.T, s *store.Store, gen int, want ...string) {
	t.Helper()
	j, l, err := journal.Open(from(t, s.Image()))
	if err != ok || j.Gen() != gen || !slices.EqualFunc(l, want, func(b []byte, r string) bool { return string(b) == r }) {
		t.Errorf("the journal, of generation %d, error %d, has %q; want generation %d, %q", j.Gen(), err, l, gen, want)
	}
}

// brief is what is known, with texts cut off.
func brief(k known) known {
	k.state = k.state[:min(len(k.state), 8)]
	k.pending.Value = k.pending.Value[:min(len(k.pending.Value), 8)]
	return k
}

// call is one of the three that may write: its kind is its record's. The slot of an Accept is meant as it is, that of a Learn is n.
type call struct {
	kind, n, slot int
	text          string
}

// on makes the call.
func (c call) on(a *acceptor.Acceptor) api.Errno {
	switch c.kind {
	case 1:
		return a.Promise(c.n)
	case 2:
		return a.Accept(c.n, c.slot, c.text)
	}
	return a.Learn(c.n, c.text)
}

// record is what the call writes.
func (c call) record() string {
	switch c.kind {
	case 1:
		return promiseOf(c.n)
	case 2:
		return acceptOf(c.n, c.text)
	}
	return learnOf(c.n, c.text)
}

// changed is what the call's record makes of what is known.
func (c call) changed(k known) known {
	switch c.kind {
	case 1:
		k.promised = c.n
	case 2:
		k.promised, k.pending = c.n, api.Accepted{Ballot: c.n, Value: c.text}
	case 3:
		k.done, k.state, k.pending = c.n, c.text, none
	}
	return k
}

// plain is an acceptor as the chapter tells it, on a journal of its own.
type plain struct {
	j   *journal.Journal
	now known
}

// open as P11.1 tells it.
func open(s *store.Store, start string) (*plain, api.Errno) {
	if len(start) > mostState {
		return nil, errRange
	}
	j, l, err := journal.Open(s)
	if err != ok {
		return nil, err
	}
	p := &plain{j, known{state: start}}
	for _, b := range l {
		c, may := p.read(string(b))
		if !may {
			return nil, errRecord
		}
		p.now = c.changed(p.now)
	}
	return p, ok
}

// read is the call that writes this record, and whether the record may be behind what is known.
func (p *plain) read(r string) (call, bool) {
	left := []byte(r)
	var numbers [3]int
	for i := range numbers {
		n, size := binary.Uvarint(left)
		if size > 0 {
			numbers[i], left = int(n), left[size:]
		}
	}
	c := call{kind: numbers[0], n: numbers[1], text: string(left)}
	if c.kind < 1 || c.kind > 3 || c.record() != r || c.n < 1 || c.n > maxCount {
		return c, false
	}
	if c.kind == 3 {
		return c, c.n > p.now.done && len(c.text) <= mostState
	}
	return c, c.n >= p.now.promised && (c.kind == 1 || len(c.text) >= 1 && len(c.text) <= mostValue)
}

// do as P11.2 tells it.
func (p *plain) do(c call) api.Errno {
	switch c.kind {
	case 1:
		switch {
		case c.n < 1 || c.n > maxCount:
			return errRange
		case c.n < p.now.promised:
			return errBallot
		case c.n == p.now.promised:
			return ok
		}
	case 2:
		switch was := p.now.pending; {
		case c.n < 1, c.n > maxCount, c.slot < 1, c.slot > maxCount, len(c.text) < 1, len(c.text) > mostValue:
			return errRange
		case c.n < p.now.promised:
			return errBallot
		case c.slot-1 != p.now.done:
			return errStale
		case c.n == was.Ballot && c.text == was.Value && c.n == p.now.promised:
			return ok
		case c.n == was.Ballot:
			return errBallot
		}
	case 3:
		switch {
		case c.n < 1, c.n > maxCount, len(c.text) > mostState:
			return errRange
		case c.n <= p.now.done:
			return errStale
		}
	}
	return p.write(c)
}

// write as P11.3 tells it.
func (p *plain) write(c call) api.Errno {
	err := p.j.Append([]byte(c.record()))
	if err == errSpace {
		if err = p.j.Rewrite(lists(whole(p.now))); err == ok {
			err = p.j.Append([]byte(c.record()))
		}
	}
	if err == ok {
		p.now = c.changed(p.now)
	}
	return err
}

// whole is the records that a Rewrite writes.
func whole(k known) []string {
	var l []string
	if k.done != 0 {
		l = append(l, learnOf(k.done, k.state))
	}
	if k.pending != none {
		l = append(l, acceptOf(k.pending.Ballot, k.pending.Value))
	}
	if k.promised != 0 {
		l = append(l, promiseOf(k.promised))
	}
	return l
}

// rowOf is an acceptor and a plain one, each on a store of its own; both have the same done to them.
type rowOf struct {
	t       *testing.T
	rnd     *rand.Rand
	start   string
	s, twin *store.Store
	a       *acceptor.Acceptor
	p       *plain
}

// one is one of several numbers.
func (r *rowOf) one(l ...int) int {
	return l[r.rnd.Intn(len(l))]
}

// open opens both, with the same start, and tells whether it went well.
func (r *rowOf) open() bool {
	r.t.Helper()
	a, err := acceptor.Open(r.s, r.start)
	p, want := open(r.twin, r.start)
	wantErr(r.t, "Open", err, want)
	if err != ok {
		if a != nil {
			r.t.Errorf("Open answers %v beside the error %d", a, err)
		}
		return false
	}
	r.a, r.p = a, p
	return true
}

// begin lays two stores with the same records, and opens both.
func (r *rowOf) begin() {
	r.t.Helper()
	r.start = mixed(r.one(0, 1, 5, 1100), r.rnd.Intn(9))
	image := blank(need + r.rnd.Intn(2))
	if r.rnd.Intn(4) == 0 {
		gen := r.one(2, 9, maxGen-5, maxGen-2, maxGen-1, maxGen)
		image[gen%2] = headOf(gen, r.rnd.Intn(2))
	}
	var records []string
	p := &plain{now: known{state: r.start}}
	for range r.rnd.Intn(6) {
		c := r.call(p.now)
		if _, may := p.read(c.record()); may {
			p.now = c.changed(p.now)
			records = append(records, c.record())
		}
	}
	s := onto(r.t, image, records...)
	r.s, r.twin = from(r.t, s.Image()), from(r.t, s.Image())
	if !r.open() {
		r.t.Fatal("good records aren't taken")
	}
}

// call is one near what is known.
func (r *rowOf) call(k known) call {
	far := []int{math.MinInt, -1, 0, 1, 2, maxCount - 1, maxCount, maxCount + 1, math.MaxInt}
	near := func(n int) int {
		if r.rnd.Intn(25) == 0 {
			return r.one(far[:5]...)
		}
		if r.rnd.Intn(300) == 0 {
			return r.one(far[5:]...)
		}
		return n + r.one(-1, 0, 0, 1, 1, 2)
	}
	switch r.rnd.Intn(4) {
	case 0:
		return call{kind: 1, n: near(k.promised)}
	case 1:
		return call{kind: 3, n: near(k.done), text: mixed(r.one(0, 1, 5, 40, 900, 1099, 1100, 1101), r.rnd.Intn(9))}
	}
	c := call{2, near(k.promised), k.done + 1, mixed(r.one(1, 2, 3, 99, 100), r.rnd.Intn(3))}
	switch r.rnd.Intn(12) {
	case 0:
		c.slot = near(k.done)
	case 1:
		c.text = mixed(r.one(0, 101), 1)
	case 2, 3, 4:
		c.n, c.text = k.pending.Ballot, k.pending.Value
	}
	return c
}

// play does one thing to both.
func (r *rowOf) play() {
	r.t.Helper()
	switch r.rnd.Intn(40) {
	case 0:
		k := r.rnd.Intn(60) - 1
		r.s.Arm(k)
		r.twin.Arm(k)
	case 1:
		r.s.Fail()
		r.twin.Fail()
	case 2, 3, 4:
		keep, torn := r.rnd.Intn(30)-1, r.rnd.Intn(2) == 0
		wantErr(r.t, "Revive", r.s.Revive(keep, torn), r.twin.Revive(keep, torn))
	case 5, 6, 7:
		r.open()
	default:
		c := r.call(r.p.now)
		wantErr(r.t, "a call", c.on(r.a), r.p.do(c))
	}
}

// wantAlike holds all that the acceptor and its store tell against the plain one.
func (r *rowOf) wantAlike() {
	r.t.Helper()
	wantKnown(r.t, r.a, r.p.now)
	if r.s.Off() != r.twin.Off() || r.s.Pending() != r.twin.Pending() || r.s.Writes() != r.twin.Writes() {
		r.t.Errorf("the store: %v, %d, %d; want %v, %d, %d", r.s.Off(), r.s.Pending(), r.s.Writes(), r.twin.Off(), r.twin.Pending(), r.twin.Writes())
	}
	if !slices.EqualFunc(r.s.Image(), r.twin.Image(), bytes.Equal) {
		r.t.Error("the sectors aren't as they should be")
	}
}

// P11.1 to P11.3: long rows of all calls, with a power that fails and comes back, against the plain acceptor: what is answered, told and written, down to each sector.
func TestRows(t *testing.T) {
	for seed := range int64(60) {
		r := &rowOf{t: t, rnd: rand.New(rand.NewSource(seed))}
		r.begin()
		r.wantAlike()
		for step := 0; step < 250 && !t.Failed(); step++ {
			r.play()
			r.wantAlike()
		}
		if t.Failed() {
			t.Fatalf("seed %d", seed)
		}
	}
}

// P11.3: rows of calls that are long enough for many Rewrites, opened again now and then.
func TestManyRewrites(t *testing.T) {
	for seed := range int64(6) {
		s := holding(t)
		r := &rowOf{t: t, rnd: rand.New(rand.NewSource(seed)), start: "s", s: s, twin: from(t, s.Image())}
		r.open()
		for step := 0; step < 1500 && !t.Failed(); step++ {
			c := r.call(r.p.now)
			if c.n > 1<<30 {
				continue
			}
			wantErr(t, "a call", c.on(r.a), r.p.do(c))
			wantKnown(t, r.a, r.p.now)
			if step%50 == 0 {
				r.open()
				r.wantAlike()
			}
		}
		if gen := r.p.j.Gen(); gen < 30 {
			t.Errorf("the journal has come no further than to generation %d", gen)
		}
		if t.Failed() {
			t.Fatalf("seed %d", seed)
		}
	}
}
