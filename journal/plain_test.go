package journal_test

import (
	"bytes"
	"encoding/binary"
	"hash/crc32"
	"math/rand"
	"slices"
	"strings"
	"testing"

	"lagoon/api"
	"lagoon/journal"
	"lagoon/store"
)

// The numbers, as the document tells them.
const (
	sectorBytes = 64
	partBytes   = 47
	maxParts    = 24
	longest     = 1128
	areaSectors = 60
	need        = 122
	maxSectors  = 512
	maxGen      = 1 << 30
)

// areaAt are the areas' first sectors.
var areaAt = [2]int{2, 62}

// laid is a part's sector, as the chapter's table has it.
func laid(gen, number uint32, index, parts, size byte, text string) []byte {
	b := make([]byte, sectorBytes)
	binary.LittleEndian.PutUint32(b[0:], gen)
	binary.LittleEndian.PutUint32(b[4:], number)
	b[8], b[9], b[10] = index, parts, size
	copy(b[11:58], text)
	return summed(b)
}

// summed lays the checksum of a sector anew.
func summed(b []byte) []byte {
	binary.LittleEndian.PutUint32(b[60:], crc32.Checksum(b[:60], crc32.MakeTable(crc32.Castagnoli)))
	return b
}

// whole is the sectors of a record.
func whole(gen, number int, text string) [][]byte {
	pieces := []string{""}
	for i := 0; i < len(text); i += partBytes {
		pieces = append(pieces[:i/partBytes], text[i:min(i+partBytes, len(text))])
	}
	var l [][]byte
	for i, piece := range pieces {
		l = append(l, laid(uint32(gen), uint32(number), byte(i), byte(len(pieces)), byte(len(piece)), piece))
	}
	return l
}

// wholes is the sectors of records, numbered from 0 on.
func wholes(gen int, texts ...string) [][]byte {
	var l [][]byte
	for n, text := range texts {
		l = append(l, whole(gen, n, text)...)
	}
	return l
}

// headOf is a head that names a generation and an area.
func headOf(gen, area int) []byte {
	return laid(uint32(gen), 0, 0, 1, 1, string([]byte{byte(area)}))
}

// blank is so many sectors of zeros.
func blank(n int) [][]byte {
	image := make([][]byte, n)
	for i := range image {
		image[i] = make([]byte, sectorBytes)
	}
	return image
}

// with puts sectors into an image, from one on.
func with(image [][]byte, at int, sectors ...[]byte) [][]byte {
	for i, b := range sectors {
		image[at+i] = slices.Clone(b)
	}
	return image
}

// from is a store of these sectors.
func from(t *testing.T, image [][]byte) *store.Store {
	t.Helper()
	s, err := store.From(image)
	if s == nil || err != api.OK {
		t.Fatalf("store.From of %d sectors: %d", len(image), err)
	}
	return s
}

// mixed is a text of n bytes that hangs on x.
func mixed(n, x int) string {
	b := make([]byte, n)
	for i := range b {
		b[i] = byte(x*31 + i*7 + i/partBytes)
	}
	return string(b)
}

// lists is texts as lists of bytes.
func lists(texts ...string) [][]byte {
	var l [][]byte
	for _, text := range texts {
		l = append(l, []byte(text))
	}
	return l
}

// texts is lists of bytes as texts.
func texts(l [][]byte) []string {
	var all []string
	for _, b := range l {
		all = append(all, string(b))
	}
	return all
}

// sectorsOf is how many sectors records take.
func sectorsOf(records ...string) int {
	return len(wholes(1, records...))
}

// wantErr holds an error against the one that should be.
func wantErr(t *testing.T, call string, got, want api.Errno) {
	t.Helper()
	if got != want {
		t.Errorf("%s: %d; want %d", call, got, want)
	}
}

// wantTold holds what a journal tells of itself against what it should.
func wantTold(t *testing.T, j *journal.Journal, gen, records, room int) {
	t.Helper()
	if j.Gen() != gen || j.Records() != records || j.Room() != room {
		t.Errorf("Gen %d, Records %d, Room %d; want %d, %d, %d", j.Gen(), j.Records(), j.Room(), gen, records, room)
	}
}

// wantRecords opens a store, and holds its generation and its records against those that should be.
func wantRecords(t *testing.T, s *store.Store, gen int, want ...string) *journal.Journal {
	t.Helper()
	j, l, err := journal.Open(s)
	if j == nil || err != api.OK {
		t.Fatalf("Open: %v, %d", j, err)
	}
	if !slices.Equal(texts(l), want) {
		t.Fatalf("Open: the records %q; want %q", l, want)
	}
	wantTold(t, j, gen, len(want), areaSectors-sectorsOf(want...))
	return j
}

// opened opens a store, and wants it to go well.
func opened(t *testing.T, s *store.Store) (*journal.Journal, []string) {
	t.Helper()
	j, l, err := journal.Open(s)
	if j == nil || err != api.OK {
		t.Fatalf("Open: %v, %d", j, err)
	}
	return j, texts(l)
}

// fresh is a journal on a new store of 122 sectors.
func fresh(t *testing.T) (*journal.Journal, *store.Store) {
	t.Helper()
	s := from(t, blank(need))
	return wantRecords(t, s, 1), s
}

// appended appends records, and wants that to go well.
func appended(t *testing.T, j *journal.Journal, records ...string) {
	t.Helper()
	for _, r := range records {
		if err := j.Append([]byte(r)); err != api.OK {
			t.Fatalf("Append of %d bytes: %d", len(r), err)
		}
	}
}

// rewritten replaces the records, and wants that to go well.
func rewritten(t *testing.T, j *journal.Journal, records ...string) {
	t.Helper()
	if err := j.Rewrite(lists(records...)); err != api.OK {
		t.Fatalf("Rewrite of %d records: %d", len(records), err)
	}
}

// wantImage holds a store's durable sectors against what they should be.
func wantImage(t *testing.T, s *store.Store, want [][]byte) {
	t.Helper()
	for i, b := range s.Image() {
		if !bytes.Equal(b, want[i]) {
			t.Errorf("sector %d: % x; want % x", i, b, want[i])
		}
	}
	if len(s.Image()) != len(want) || s.Pending() != 0 {
		t.Errorf("%d sectors, %d pending; want %d, 0", len(s.Image()), s.Pending(), len(want))
	}
}

// wantStill holds a store against what it was: nothing was written.
func wantStill(t *testing.T, s *store.Store, image [][]byte, writes int) {
	t.Helper()
	wantImage(t, s, image)
	if s.Writes() != writes {
		t.Errorf("%d writes; want %d", s.Writes(), writes)
	}
}

// piece is a part as the plain journal reads it.
type piece struct {
	gen, number, index, parts int
	text                      string
}

// read is the piece that stands in a sector.
func read(b []byte) (piece, bool) {
	if len(b) != sectorBytes || !bytes.Equal(b, summed(slices.Clone(b))) {
		return piece{}, false
	}
	p := piece{int(binary.LittleEndian.Uint32(b)), int(binary.LittleEndian.Uint32(b[4:])), int(b[8]), int(b[9]), ""}
	size := int(b[10])
	if p.gen < 1 || p.gen > maxGen || p.number > maxGen || p.parts < 1 || p.parts > maxParts || p.index >= p.parts || size > partBytes {
		return piece{}, false
	}
	last := p.index == p.parts-1
	if !last && size != partBytes || last && size == 0 && p.parts > 1 {
		return piece{}, false
	}
	p.text = string(b[11 : 11+size])
	return p, strings.Trim(string(b[11+size:60]), "\x00") == ""
}

// plain is a journal as the chapter tells it, by whole lists of texts, on a store of its own.
type plain struct {
	s         *store.Store
	gen, area int
	records   []string
	dead      bool
}

// open is the plain journal of a store, as P5.1 tells it.
func open(s *store.Store) (*plain, api.Errno) {
	if s.Off() {
		return nil, api.ErrPower
	}
	p := &plain{s: s}
	for i := range 2 {
		b, _ := s.Read(i)
		h, ok := read(b)
		names := ok && h.number == 0 && h.parts == 1 && (h.text == "\x00" || h.text == "\x01") && h.gen%2 == i
		if names && h.gen > p.gen {
			p.gen, p.area = h.gen, int(h.text[0])
		}
	}
	if p.gen == 0 {
		p.gen = 1
		s.Write(1, headOf(1, 0))
		if err := s.Barrier(); err != api.OK {
			return nil, err
		}
	}
	p.records = p.stand()
	return p, api.OK
}

// stand is the records of the area: at each place the one that, laid again, is just what stands there.
func (p *plain) stand() []string {
	var area [][]byte
	for i := range areaSectors {
		b, _ := p.s.Read(areaAt[p.area] + i)
		area = append(area, b)
	}
	var records []string
	for {
		text := ""
		first, ok := read(area[0])
		for i := 0; i < min(first.parts, len(area)); i++ {
			q, _ := read(area[i])
			text += q.text
		}
		sectors := whole(p.gen, len(records), text)
		if !ok || len(sectors) > len(area) || !slices.EqualFunc(sectors, area[:len(sectors)], bytes.Equal) {
			return records
		}
		records = append(records, text)
		area = append(area[len(sectors):], nil)
	}
}

// fail is what a plain journal answers when its store fails.
func (p *plain) fail() api.Errno {
	p.dead = true
	return api.ErrPower
}

// lay writes sectors, and calls a Barrier.
func (p *plain) lay(at int, sectors [][]byte) bool {
	for i, b := range sectors {
		if p.s.Write(at+i, b) != api.OK {
			return false
		}
	}
	return p.s.Barrier() == api.OK
}

// append as P5.2 tells it.
func (p *plain) append(text string) api.Errno {
	if p.dead {
		return api.ErrPower
	}
	if len(text) > longest {
		return api.ErrRange
	}
	used := sectorsOf(p.records...)
	if used+sectorsOf(text) > areaSectors {
		return api.ErrSpace
	}
	if !p.lay(areaAt[p.area]+used, whole(p.gen, len(p.records), text)) {
		return p.fail()
	}
	p.records = append(p.records, text)
	return api.OK
}

// next is the next generation, as P5.3 tells it: tried one by one.
func (p *plain) next() int {
	for gen := p.gen + 1; ; gen += 2 {
		above := true
		for i := range areaSectors {
			b, _ := p.s.Read(areaAt[1-p.area] + i)
			q, ok := read(b)
			above = above && (!ok || q.gen < gen)
		}
		if above || gen > maxGen {
			return gen
		}
	}
}

// rewrite as P5.3 tells it.
func (p *plain) rewrite(records []string) api.Errno {
	if p.dead {
		return api.ErrPower
	}
	if slices.ContainsFunc(records, func(r string) bool { return len(r) > longest }) {
		return api.ErrRange
	}
	if sectorsOf(records...) > areaSectors {
		return api.ErrSpace
	}
	gen := p.next()
	if gen > maxGen {
		return api.ErrWorn
	}
	if !p.lay(areaAt[1-p.area], wholes(gen, records...)) || !p.lay(gen%2, [][]byte{headOf(gen, 1-p.area)}) {
		return p.fail()
	}
	p.gen, p.area, p.records = gen, 1-p.area, slices.Clone(records)
	return api.OK
}

// rowOf is a journal and a plain one, each on a store of its own; both have the same done to them.
type rowOf struct {
	t       *testing.T
	rnd     *rand.Rand
	s, twin *store.Store
	j       *journal.Journal
	p       *plain
}

// reopen opens both.
func (r *rowOf) reopen() {
	r.t.Helper()
	j, l, err := journal.Open(r.s)
	p, want := open(r.twin)
	wantErr(r.t, "Open", err, want)
	if err != api.OK {
		if j != nil || len(l) != 0 {
			r.t.Errorf("Open answers %v, %q beside the error %d", j, l, err)
		}
		return
	}
	if !slices.Equal(texts(l), p.records) {
		r.t.Errorf("Open: the records %q; want %q", l, p.records)
	}
	r.j, r.p = j, p
}

// text is a record of some length, now and then one byte too long.
func (r *rowOf) text() string {
	long := []int{0, 1, 2, 46, 47, 48, 93, 94, 95, 300, 1127, 1128, 1129}
	n := long[r.rnd.Intn(len(long))]
	if r.rnd.Intn(2) == 0 {
		n = r.rnd.Intn(120)
	}
	return mixed(n, r.rnd.Intn(256))
}

// play does one thing to both.
func (r *rowOf) play() {
	r.t.Helper()
	switch r.rnd.Intn(20) {
	case 0, 1, 2:
		k := r.rnd.Intn(12) - 1
		r.s.Arm(k)
		r.twin.Arm(k)
	case 3:
		r.s.Fail()
		r.twin.Fail()
	case 4, 5, 6, 7:
		keep, torn := r.rnd.Intn(9)-1, r.rnd.Intn(2) == 0
		wantErr(r.t, "Revive", r.s.Revive(keep, torn), r.twin.Revive(keep, torn))
	case 8, 9, 10:
		r.reopen()
	case 11, 12, 13:
		records := make([]string, r.rnd.Intn(5))
		for i := range records {
			records[i] = r.text()
		}
		wantErr(r.t, "Rewrite", r.j.Rewrite(lists(records...)), r.p.rewrite(records))
	default:
		text := r.text()
		wantErr(r.t, "Append", r.j.Append([]byte(text)), r.p.append(text))
	}
}

// wantAlike holds all that the journal and its store tell against the plain ones.
func (r *rowOf) wantAlike() {
	r.t.Helper()
	wantTold(r.t, r.j, r.p.gen, len(r.p.records), areaSectors-sectorsOf(r.p.records...))
	if r.s.Off() != r.twin.Off() || r.s.Pending() != r.twin.Pending() || r.s.Writes() != r.twin.Writes() {
		r.t.Errorf("the store: %v, %d, %d; want %v, %d, %d", r.s.Off(), r.s.Pending(), r.s.Writes(), r.twin.Off(), r.twin.Pending(), r.twin.Writes())
	}
	if !slices.EqualFunc(r.s.Image(), r.twin.Image(), bytes.Equal) {
		r.t.Error("the sectors aren't as they should be")
	}
}

// P5.1 to P5.4: long rows of all calls, with a power that fails and comes back, against the plain journal: what is answered, told and written.
func TestRows(t *testing.T) {
	for seed := range int64(40) {
		rnd := rand.New(rand.NewSource(seed))
		n := need + rnd.Intn(3)
		r := &rowOf{t: t, rnd: rnd, s: from(t, blank(n)), twin: from(t, blank(n))}
		r.reopen()
		for step := 0; step < 300 && !t.Failed(); step++ {
			r.play()
			r.wantAlike()
		}
		if t.Failed() {
			t.Fatalf("seed %d", seed)
		}
	}
}
