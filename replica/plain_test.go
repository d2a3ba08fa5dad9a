package replica_test

import (
	"bytes"
	"encoding/binary"
	"hash/crc32"
	"math"
	"math/rand"
	"slices"
	"strings"
	"testing"

	"lagoon/api"
	"lagoon/replica"
	"lagoon/store"
)

// The numbers, as the document tells them.
const (
	need        = 258
	nBlocks     = 128
	metaAt      = 128
	maxBlock    = 44
	maxCount    = 1 << 40
	sectorBytes = 64
)

// The errors, as the document tells them.
const (
	ok       api.Errno = 0
	errNil   api.Errno = 1
	errRange api.Errno = 2
	errSpace api.Errno = 12
	errPower api.Errno = 13
	errWorn  api.Errno = 15
	errEpoch api.Errno = 21
	errFence api.Errno = 22
	errStale api.Errno = 25
)

// none is a block's first value.
var none = api.Cell{}

// state is all that a replica tells.
type state struct {
	blocks [nBlocks]api.Cell
	meta   api.Meta
}

// forms is numbers as chapter 1 lays them.
func forms(numbers ...int) string {
	var b []byte
	for _, n := range numbers {
		b = binary.AppendUvarint(b, uint64(n))
	}
	return string(b)
}

// blockText is the text of a block's cell, as the chapter has it.
func blockText(x api.Cell) string {
	if x.Seq == 0 && x.Data == "" {
		return ""
	}
	return forms(x.Seq) + x.Data
}

// metaText is the text of cell 128, as the chapter has it.
func metaText(m api.Meta) string {
	text := forms(m.Epoch, m.Joined, m.Fences[0], m.Fences[1], m.Fences[2])
	if text == "\x00\x00\x00\x00\x00" {
		return ""
	}
	return text
}

// asBlock is the value whose text this is, just as it would be laid.
func asBlock(text string) api.Cell {
	seq, n := binary.Uvarint([]byte(text))
	if n <= 0 || seq < 1 || seq > maxCount || len(text)-n > maxBlock {
		return none
	}
	x := api.Cell{Seq: int(seq), Data: text[n:]}
	if blockText(x) != text {
		return none
	}
	return x
}

// asMeta is the meta whose text this is, just as it would be laid.
func asMeta(text string) api.Meta {
	var l [5]int
	left := []byte(text)
	for i := range l {
		x, n := binary.Uvarint(left)
		if n <= 0 || x > maxCount {
			return api.Meta{}
		}
		l[i], left = int(x), left[n:]
	}
	m := api.Meta{Epoch: l[0], Joined: l[1], Fences: [3]int{l[2], l[3], l[4]}}
	if metaText(m) != text {
		return api.Meta{}
	}
	return m
}

// sector is a value's sector as chapter 6 has it.
func sector(seq int, text string) []byte {
	b := make([]byte, sectorBytes)
	binary.LittleEndian.PutUint64(b, uint64(seq))
	b[8] = byte(len(text))
	copy(b[9:60], text)
	binary.LittleEndian.PutUint32(b[60:], crc32.Checksum(b[:60], crc32.MakeTable(crc32.Castagnoli)))
	return b
}

// textIn is the number and the text of a value's sector; 0, if none stands there.
func textIn(b []byte) (int, string) {
	if len(b) != sectorBytes || b[8] > 51 {
		return 0, ""
	}
	seq, text := binary.LittleEndian.Uint64(b), string(b[9:9+b[8]])
	if seq < 1 || seq > maxCount || !bytes.Equal(b, sector(int(seq), text)) {
		return 0, ""
	}
	return int(seq), text
}

// blank is so many sectors of zeros.
func blank(n int) [][]byte {
	image := make([][]byte, n)
	for i := range image {
		image[i] = make([]byte, sectorBytes)
	}
	return image
}

// with is an image with other sectors, from one on; one without bytes is torn.
func with(image [][]byte, at int, sectors ...[]byte) [][]byte {
	image = slices.Clone(image)
	for i, b := range sectors {
		image[at+i] = slices.Clone(b)
	}
	return image
}

// laid is the sectors of a replica whose cells have got all this by one Put each.
func laid(x state) [][]byte {
	image := blank(need)
	for b, v := range x.blocks {
		if text := blockText(v); text != "" {
			image[2*b] = sector(1, text)
		}
	}
	if text := metaText(x.meta); text != "" {
		image[2*metaAt] = sector(1, text)
	}
	return image
}

// mixed is a text of n bytes that hangs on x.
func mixed(n, x int) string {
	b := make([]byte, n)
	for i := range b {
		b[i] = byte(x*31 + i*7)
	}
	return string(b)
}

// some is a state with a few blocks and a meta.
func some() state {
	var x state
	x.blocks[0] = api.Cell{Seq: 1, Data: "first"}
	x.blocks[3] = api.Cell{Seq: 10, Data: "three"}
	x.blocks[60] = api.Cell{Seq: 128}
	x.blocks[126] = api.Cell{Seq: maxCount, Data: "at the end"}
	x.blocks[127] = api.Cell{Seq: maxCount - 1, Data: mixed(44, 1)}
	x.meta = api.Meta{Epoch: 5, Joined: 4, Fences: [3]int{7, 0, 300}}
	return x
}

// from is a store of these sectors.
func from(t *testing.T, image [][]byte) *store.Store {
	t.Helper()
	s, err := store.From(image)
	if s == nil || err != ok {
		t.Fatalf("store.From of %d sectors: %d", len(image), err)
	}
	return s
}

// opened opens a replica, and wants it to go well.
func opened(t *testing.T, s *store.Store) *replica.Replica {
	t.Helper()
	r, err := replica.Open(s)
	if r == nil || err != ok {
		t.Fatalf("Open on %d sectors: %v, %d", s.Len(), r, err)
	}
	return r
}

// fresh is a replica of a new store of just as many sectors as it needs.
func fresh(t *testing.T) (*replica.Replica, *store.Store) {
	t.Helper()
	s := from(t, blank(need))
	return opened(t, s), s
}

// holding is a replica of a state, and its store.
func holding(t *testing.T, x state) (*replica.Replica, *store.Store) {
	t.Helper()
	s := from(t, laid(x))
	return opened(t, s), s
}

// told is what a replica tells.
func told(r *replica.Replica) state {
	var x state
	for b := range x.blocks {
		x.blocks[b] = r.Block(b)
	}
	x.meta = r.Meta()
	return x
}

// wantErr holds an error against the one that should be.
func wantErr(t *testing.T, call string, got, want api.Errno) {
	t.Helper()
	if got != want {
		t.Errorf("%s: %d; want %d", call, got, want)
	}
}

// wantState holds what a replica tells against what it should; and there are no blocks beside these.
func wantState(t *testing.T, r *replica.Replica, want state) {
	t.Helper()
	for b, v := range want.blocks {
		if r.Block(b) != v {
			t.Errorf("Block(%d): %v; want %v", b, r.Block(b), v)
		}
	}
	if r.Meta() != want.meta {
		t.Errorf("Meta: %v; want %v", r.Meta(), want.meta)
	}
	for _, b := range noBlocks() {
		if v := r.Block(b); v != none {
			t.Errorf("Block(%d): %v; want none", b, v)
		}
	}
}

// noBlocks are numbers of blocks that there aren't.
func noBlocks() []int {
	return []int{-1, 128, math.MinInt, -1 << 32, -129, -128, -2, 129, 130, 255, 256, 258, 512, 1 << 32, 1<<32 + 3, 1 << 62, math.MaxInt}
}

// wantOpened opens a replica, and holds what it tells against what it should.
func wantOpened(t *testing.T, s *store.Store, want state) *replica.Replica {
	t.Helper()
	r := opened(t, s)
	wantState(t, r, want)
	return r
}

// wantStill holds a store against what it should be, how often it should have been written, and wants nothing to be pending.
func wantStill(t *testing.T, s *store.Store, image [][]byte, writes int) {
	t.Helper()
	is := s.Image()
	if len(is) != len(image) || s.Pending() != 0 || s.Writes() != writes {
		t.Fatalf("%d sectors, %d pending, %d writes; want %d, 0, %d", len(is), s.Pending(), s.Writes(), len(image), writes)
	}
	for i, b := range is {
		if !bytes.Equal(b, image[i]) {
			t.Errorf("sector %d: % x; want % x", i, b, image[i])
		}
	}
}

// plain is a replica as the chapter tells it, on a store of its own. Which sector has a cell's text is found in the store each time.
type plain struct {
	s    *store.Store
	now  state
	seqs [nBlocks + 1]int // the cells' own numbers
	dead bool
}

// open is the plain replica of a store, as P7.1 tells it.
func open(s *store.Store) (*plain, api.Errno) {
	if s.Len() < need {
		return nil, errSpace
	}
	if s.Off() {
		return nil, errPower
	}
	p := &plain{s: s}
	text := ""
	for b := range p.now.blocks {
		p.seqs[b], text, _ = stands(s, b)
		p.now.blocks[b] = asBlock(text)
	}
	p.seqs[metaAt], text, _ = stands(s, metaAt)
	p.now.meta = asMeta(text)
	return p, ok
}

// stands is the number and the text of a cell, and the sector that they are in; of an empty one the second.
func stands(s *store.Store, i int) (int, string, int) {
	best, text, at := 0, "", 2*i+1
	for k := 2*i + 1; k >= 2*i; k-- {
		b, _ := s.Read(k)
		if seq, x := textIn(b); seq > 0 && seq >= best {
			best, text, at = seq, x, k
		}
	}
	return best, text, at
}

// put puts a cell's text as chapter 6 tells it.
func (p *plain) put(i int, text string) api.Errno {
	if p.seqs[i] == maxCount {
		return errWorn
	}
	_, _, at := stands(p.s, i)
	if p.s.Write(4*i+1-at, sector(p.seqs[i]+1, text)) != ok || p.s.Barrier() != ok {
		p.dead = true
		return errPower
	}
	p.seqs[i]++
	return ok
}

// value puts a block's value.
func (p *plain) value(b int, x api.Cell) api.Errno {
	err := p.put(b, blockText(x))
	if err == ok {
		p.now.blocks[b] = x
	}
	return err
}

// turn puts a meta, if it is another.
func (p *plain) turn(m api.Meta) api.Errno {
	if m == p.now.meta {
		return ok
	}
	err := p.put(metaAt, metaText(m))
	if err == ok {
		p.now.meta = m
	}
	return err
}

// apply as P7.2 tells it.
func (p *plain) apply(b int, x api.Cell, server, gen int) api.Errno {
	switch {
	case p.dead:
		return errPower
	case b < 0 || b > 127, x.Seq < 1 || x.Seq > maxCount, len(x.Data) > 44, server < 0 || server > 2, gen < 1 || gen > maxCount:
		return errRange
	case gen < p.now.meta.Fences[server]:
		return errFence
	case x.Seq == p.now.blocks[b].Seq && x.Data == p.now.blocks[b].Data:
		return ok
	case x.Seq <= p.now.blocks[b].Seq:
		return errStale
	}
	return p.value(b, x)
}

// load as P7.2 tells it.
func (p *plain) load(b int, x api.Cell) api.Errno {
	switch {
	case p.dead:
		return errPower
	case b < 0 || b > 127, x.Seq < 0 || x.Seq > maxCount, x.Seq == 0 && x.Data != "", len(x.Data) > 44:
		return errRange
	case x.Seq == p.now.blocks[b].Seq && x.Data == p.now.blocks[b].Data:
		return ok
	}
	return p.value(b, x)
}

// fence as P7.3 tells it.
func (p *plain) fence(server, gen int) api.Errno {
	switch {
	case p.dead:
		return errPower
	case server < 0 || server > 2, gen < 1 || gen > maxCount:
		return errRange
	case p.now.meta.Fences[server] >= gen:
		return ok
	}
	m := p.now.meta
	m.Fences[server] = gen
	return p.turn(m)
}

// adopt as P7.3 tells it.
func (p *plain) adopt(epoch int) api.Errno {
	switch {
	case p.dead:
		return errPower
	case epoch < 1 || epoch > maxCount:
		return errRange
	case epoch < p.now.meta.Epoch:
		return errEpoch
	}
	m := p.now.meta
	m.Epoch = epoch
	return p.turn(m)
}

// join as P7.3 tells it.
func (p *plain) join(since int) api.Errno {
	switch {
	case p.dead:
		return errPower
	case since < 0 || since > maxCount:
		return errRange
	}
	m := p.now.meta
	m.Joined = since
	return p.turn(m)
}

// rowOf is a replica and a plain one, each on a store of its own; both have the same done to them.
type rowOf struct {
	t       *testing.T
	rnd     *rand.Rand
	s, twin *store.Store
	r       *replica.Replica
	p       *plain
}

// one is one of several numbers.
func (r *rowOf) one(l ...int) int {
	return l[r.rnd.Intn(len(l))]
}

// strangeText is a text that a cell may have: as the chapter has a block's or a meta's, or none such.
func (r *rowOf) strangeText() string {
	near := []int{0, 1, 2, 127, 128, 1 << 20, maxCount - 1, maxCount, maxCount + 1, math.MaxInt}
	var text string
	switch r.rnd.Intn(5) {
	case 0:
		text = forms(r.one(0, 1, 2, 300)) + mixed(r.one(0, 0, 1, 44, 45), r.rnd.Intn(256))
	case 1, 2:
		text = forms(r.one(near...)) + mixed(r.one(0, 1, 2, 43, 44, 45), r.rnd.Intn(256))
	default:
		text = forms(r.one(0, 1, 3), r.one(0, 1, 5), r.one(0, 2, 6), r.one(0, 1, 200), r.one(near...))
	}
	switch r.rnd.Intn(8) {
	case 0:
		text = text[:r.rnd.Intn(len(text)+1)]
	case 1:
		text += strings.Repeat("\x00", 1+r.rnd.Intn(3))
	}
	return text[:min(len(text), 51)]
}

// begin lays two stores of strange cells, and opens both.
func (r *rowOf) begin() {
	r.t.Helper()
	image := blank(need + r.rnd.Intn(2))
	for i := range need {
		switch r.rnd.Intn(8) {
		case 0:
			image[i] = nil
		case 1, 2, 3, 4:
			image[i] = sector(r.one(1, 2, 3, 9, maxCount-3, maxCount-1, maxCount), r.strangeText())
		}
	}
	r.s, r.twin = from(r.t, image), from(r.t, image)
	r.reopen()
}

// reopen opens both.
func (r *rowOf) reopen() {
	r.t.Helper()
	x, err := replica.Open(r.s)
	p, want := open(r.twin)
	wantErr(r.t, "Open", err, want)
	if err != ok {
		if x != nil {
			r.t.Errorf("Open answers %v beside the error %d", x, err)
		}
		return
	}
	r.r, r.p = x, p
}

// block is a number of a block, most often of one of a few.
func (r *rowOf) block() int {
	return r.one(0, 0, 1, 1, 3, 3, 127, 127, r.rnd.Intn(nBlocks), -1, 128)
}

// cell is a value near the one that a block has.
func (r *rowOf) cell(b int) api.Cell {
	x := none
	if b >= 0 && b < nBlocks {
		x = r.p.now.blocks[b]
	}
	switch r.rnd.Intn(8) {
	case 0:
		return x
	case 1:
		x.Seq = r.one(-1, 0, 1, maxCount-1, maxCount, maxCount+1)
	case 2:
		x.Data = ""
	case 3:
		return none
	default:
		x.Seq += r.one(-1, 0, 1, 1, 1, 2)
	}
	if r.rnd.Intn(2) == 0 {
		x.Data = mixed(r.one(0, 1, 2, 43, 44, 45), r.rnd.Intn(4))
	}
	return x
}

// play does one thing to both.
func (r *rowOf) play() {
	r.t.Helper()
	server, gen := r.one(0, 0, 1, 1, 2, 2, -1, 3), r.one(1, 2, 3, 4, 5, 6, 7, 8, 127, 128, 0, -1, maxCount, maxCount+1)
	switch r.rnd.Intn(24) {
	case 0:
		k := r.rnd.Intn(9) - 1
		r.s.Arm(k)
		r.twin.Arm(k)
	case 1:
		r.s.Fail()
		r.twin.Fail()
	case 2, 3, 4:
		keep, torn := r.rnd.Intn(4)-1, r.rnd.Intn(2) == 0
		wantErr(r.t, "Revive", r.s.Revive(keep, torn), r.twin.Revive(keep, torn))
	case 5, 6, 7:
		r.reopen()
	case 8, 9:
		wantErr(r.t, "Fence", r.r.Fence(server, min(gen, 9)), r.p.fence(server, min(gen, 9)))
	case 10:
		epoch := r.one(-1, 0, 1, 2, 3, 4, 5, 6, r.p.now.meta.Epoch+r.one(-1, 0, 1), maxCount, maxCount+1)
		wantErr(r.t, "Adopt", r.r.Adopt(epoch), r.p.adopt(epoch))
	case 11, 12:
		since := r.one(-1, 0, 0, 1, 2, r.p.now.meta.Joined+r.one(-1, 0, 1), maxCount, maxCount+1)
		wantErr(r.t, "Join", r.r.Join(since), r.p.join(since))
	case 13, 14, 15, 16:
		b := r.block()
		x := r.cell(b)
		wantErr(r.t, "Load", r.r.Load(b, x), r.p.load(b, x))
	default:
		b := r.block()
		x := r.cell(b)
		wantErr(r.t, "Apply", r.r.Apply(b, x, server, gen), r.p.apply(b, x, server, gen))
	}
}

// wantAlike holds all that the replica and its store tell against the plain one.
func (r *rowOf) wantAlike() {
	r.t.Helper()
	wantState(r.t, r.r, r.p.now)
	if r.s.Off() != r.twin.Off() || r.s.Pending() != r.twin.Pending() || r.s.Writes() != r.twin.Writes() {
		r.t.Errorf("the store: %v, %d, %d; want %v, %d, %d", r.s.Off(), r.s.Pending(), r.s.Writes(), r.twin.Off(), r.twin.Pending(), r.twin.Writes())
	}
	if !slices.EqualFunc(r.s.Image(), r.twin.Image(), bytes.Equal) {
		r.t.Error("the sectors aren't as they should be")
	}
}

// P7.1 to P7.3: long rows of all calls, on stores of any content, with a power that fails and comes back, against the plain replica: what is answered, told and written.
func TestRows(t *testing.T) {
	for seed := range int64(60) {
		r := &rowOf{t: t, rnd: rand.New(rand.NewSource(seed))}
		r.begin()
		r.wantAlike()
		for step := 0; step < 250 && !t.Failed(); step++ {
			r.play()
			r.wantAlike()
		}
		if t.Failed() {
			t.Fatalf("seed %d", seed)
		}
	}
}
