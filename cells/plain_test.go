package cells_test

import (
	"bytes"
	"encoding/binary"
	"hash/crc32"
	"math/rand"
	"slices"
	"testing"

	"lagoon/api"
	"lagoon/cells"
	"lagoon/store"
)

// The numbers, as the document tells them.
const (
	sectorBytes = 64
	maxCells    = 256
	cellBytes   = 51
	maxCount    = 1 << 40
	maxSectors  = 512
)

// The errors, as the document tells them.
const (
	ok       api.Errno = 0
	errNil   api.Errno = 1
	errRange api.Errno = 2
	errSpace api.Errno = 12
	errPower api.Errno = 13
	errWorn  api.Errno = 15
)

// laid is a sector as the chapter has a value's, of whatever is told.
func laid(lower, higher uint32, size byte, text string) []byte {
	b := make([]byte, sectorBytes)
	binary.LittleEndian.PutUint32(b[0:], lower)
	binary.LittleEndian.PutUint32(b[4:], higher)
	b[8] = size
	copy(b[9:60], text)
	return summed(b)
}

// summed lays the checksum of a sector anew.
func summed(b []byte) []byte {
	binary.LittleEndian.PutUint32(b[60:], crc32.Checksum(b[:60], crc32.MakeTable(crc32.Castagnoli)))
	return b
}

// valued is the sector of a value.
func valued(seq int, text string) []byte {
	return laid(uint32(seq%(1<<32)), uint32(seq/(1<<32)), byte(len(text)), text)
}

// read is the value that stands in a sector: the one that, laid again, is just what stands there.
func read(b []byte) (api.Cell, bool) {
	if len(b) != sectorBytes || b[8] > cellBytes {
		return api.Cell{}, false
	}
	lower, higher := int(binary.LittleEndian.Uint32(b)), int(binary.LittleEndian.Uint32(b[4:]))
	if higher > 256 || higher*(1<<32)+lower > maxCount || higher+lower == 0 {
		return api.Cell{}, false
	}
	v := api.Cell{Seq: higher*(1<<32) + lower, Data: string(b[9 : 9+b[8]])}
	return v, bytes.Equal(b, valued(v.Seq, v.Data))
}

// blank is so many sectors of zeros.
func blank(n int) [][]byte {
	image := make([][]byte, n)
	for i := range image {
		image[i] = make([]byte, sectorBytes)
	}
	return image
}

// with is an image with other sectors, from one on; one without bytes is torn.
func with(image [][]byte, at int, sectors ...[]byte) [][]byte {
	image = slices.Clone(image)
	for i, b := range sectors {
		image[at+i] = slices.Clone(b)
	}
	return image
}

// mixed is a text of n bytes that hangs on x.
func mixed(n, x int) string {
	b := make([]byte, n)
	for i := range b {
		b[i] = byte(x*31 + i*7)
	}
	return string(b)
}

// from is a store of these sectors.
func from(t *testing.T, image [][]byte) *store.Store {
	t.Helper()
	s, err := store.From(image)
	if s == nil || err != ok {
		t.Fatalf("store.From of %d sectors: %d", len(image), err)
	}
	return s
}

// opened opens cells, and wants it to go well.
func opened(t *testing.T, s *store.Store, n int) *cells.Cells {
	t.Helper()
	c, err := cells.Open(s, n)
	if c == nil || err != ok {
		t.Fatalf("Open of %d cells: %v, %d", n, c, err)
	}
	return c
}

// fresh is cells on a new store of just as many sectors as they need.
func fresh(t *testing.T, n int) (*cells.Cells, *store.Store) {
	t.Helper()
	s := from(t, blank(2*n))
	return opened(t, s, n), s
}

// put puts texts into a cell, and wants that to go well.
func put(t *testing.T, c *cells.Cells, i int, texts ...string) {
	t.Helper()
	for _, text := range texts {
		if err := c.Put(i, text); err != ok {
			t.Fatalf("Put(%d) of %d bytes: %d", i, len(text), err)
		}
	}
}

// wantErr holds an error against the one that should be.
func wantErr(t *testing.T, call string, got, want api.Errno) {
	t.Helper()
	if got != want {
		t.Errorf("%s: %d; want %d", call, got, want)
	}
}

// wantValues holds all that cells tell against the values that they should have; there are none beside these.
func wantValues(t *testing.T, c *cells.Cells, want ...api.Cell) {
	t.Helper()
	if c.Len() != len(want) {
		t.Errorf("Len %d; want %d", c.Len(), len(want))
	}
	for i, v := range want {
		if c.Get(i) != v {
			t.Errorf("Get(%d): %d, %q; want %d, %q", i, c.Get(i).Seq, c.Get(i).Data, v.Seq, v.Data)
		}
	}
	wantNone(t, c, len(want))
}

// wantNone wants the zero Cell of every cell that isn't there.
func wantNone(t *testing.T, c *cells.Cells, n int) {
	t.Helper()
	for _, i := range []int{-1 << 63, -1 << 32, -257, -256, -2, -1, n, n + 1, 255, 256, 257, 511, 512, 1 << 32, 1<<63 - 1} {
		if v := c.Get(i); (i < 0 || i >= n) && v != (api.Cell{}) {
			t.Errorf("Get(%d): %d, %q; want 0 and none", i, v.Seq, v.Data)
		}
	}
}

// wantOpened opens cells, and holds their values against those that should be.
func wantOpened(t *testing.T, s *store.Store, want ...api.Cell) *cells.Cells {
	t.Helper()
	c := opened(t, s, len(want))
	wantValues(t, c, want...)
	return c
}

// wantImage holds a store's durable sectors against what they should be, and wants nothing to be pending.
func wantImage(t *testing.T, s *store.Store, want [][]byte) {
	t.Helper()
	image := s.Image()
	if len(image) != len(want) || s.Pending() != 0 {
		t.Fatalf("%d sectors, %d pending; want %d, 0", len(image), s.Pending(), len(want))
	}
	for i, b := range image {
		if !bytes.Equal(b, want[i]) {
			t.Errorf("sector %d: % x; want % x", i, b, want[i])
		}
	}
}

// wantStill holds a store against what it should be, and how often it should have been written.
func wantStill(t *testing.T, s *store.Store, image [][]byte, writes int) {
	t.Helper()
	wantImage(t, s, image)
	if s.Writes() != writes {
		t.Errorf("%d writes; want %d", s.Writes(), writes)
	}
}

// plain is cells as the chapter tells them, on a store of their own. Where a next value goes is found in the store each time.
type plain struct {
	s      *store.Store
	values []api.Cell
	dead   bool
}

// open is the plain cells of a store, as P6.1 tells them.
func open(s *store.Store, n int) (*plain, api.Errno) {
	if n < 1 || n > maxCells {
		return nil, errRange
	}
	if s.Len() < 2*n {
		return nil, errSpace
	}
	if s.Off() {
		return nil, errPower
	}
	p := &plain{s: s}
	for i := range n {
		v, _ := stands(s, i)
		p.values = append(p.values, v)
	}
	return p, ok
}

// stands is the value of a cell, and the sector that it is in; of an empty one the second.
func stands(s *store.Store, i int) (api.Cell, int) {
	var best api.Cell
	at := 2*i + 1
	for k := 2*i + 1; k >= 2*i; k-- {
		b, _ := s.Read(k)
		if v, ok := read(b); ok && v.Seq >= best.Seq {
			best, at = v, k
		}
	}
	return best, at
}

// put as P6.3 tells it.
func (p *plain) put(i int, text string) api.Errno {
	if p.dead {
		return errPower
	}
	if i < 0 || i >= len(p.values) || len(text) > cellBytes {
		return errRange
	}
	seq := p.values[i].Seq + 1
	if seq > maxCount {
		return errWorn
	}
	_, at := stands(p.s, i)
	if p.s.Write(4*i+1-at, valued(seq, text)) != ok || p.s.Barrier() != ok {
		p.dead = true
		return errPower
	}
	p.values[i] = api.Cell{Seq: seq, Data: text}
	return ok
}

// rowOf is cells and plain ones, each on a store of its own; both have the same done to them.
type rowOf struct {
	t       *testing.T
	rnd     *rand.Rand
	s, twin *store.Store
	n       int
	c       *cells.Cells
	p       *plain
}

// strange is a sector that may stand on a store: a value's, of all kinds of numbers, or none.
func (r *rowOf) strange() []byte {
	near := []int{1, 2, 3, 255, 256, 1<<32 - 1, 1 << 32, 1<<32 + 1, maxCount - 2, maxCount - 1, maxCount}
	seq := near[r.rnd.Intn(len(near))]
	b := valued(seq, mixed(r.rnd.Intn(52), r.rnd.Intn(256)))
	switch r.rnd.Intn(8) {
	case 0:
		return nil
	case 1:
		b[r.rnd.Intn(64)] ^= byte(1 + r.rnd.Intn(255))
	case 2:
		b[r.rnd.Intn(60)] ^= byte(1 + r.rnd.Intn(255))
		summed(b)
	case 3:
		clear(b)
	}
	return b
}

// begin lays two stores of strange sectors, and opens both.
func (r *rowOf) begin() {
	r.t.Helper()
	r.n = 1 + r.rnd.Intn(6)
	image := blank(2*r.n + r.rnd.Intn(3))
	for i := range image {
		image[i] = r.strange()
	}
	r.s, r.twin = from(r.t, image), from(r.t, image)
	r.reopen(r.n)
}

// reopen opens both.
func (r *rowOf) reopen(n int) {
	r.t.Helper()
	c, err := cells.Open(r.s, n)
	p, want := open(r.twin, n)
	wantErr(r.t, "Open", err, want)
	if err != ok {
		if c != nil {
			r.t.Errorf("Open answers %v beside the error %d", c, err)
		}
		return
	}
	r.c, r.p = c, p
}

// play does one thing to both.
func (r *rowOf) play() {
	r.t.Helper()
	switch r.rnd.Intn(20) {
	case 0, 1:
		k := r.rnd.Intn(6) - 1
		r.s.Arm(k)
		r.twin.Arm(k)
	case 2:
		r.s.Fail()
		r.twin.Fail()
	case 3, 4, 5, 6:
		keep, torn := r.rnd.Intn(4)-1, r.rnd.Intn(2) == 0
		wantErr(r.t, "Revive", r.s.Revive(keep, torn), r.twin.Revive(keep, torn))
	case 7, 8, 9:
		r.reopen(r.n)
	case 10:
		r.reopen(r.rnd.Intn(r.n+3) - 1)
	default:
		i, text := r.rnd.Intn(r.n+2)-1, mixed(r.rnd.Intn(54), r.rnd.Intn(256))
		wantErr(r.t, "Put", r.c.Put(i, text), r.p.put(i, text))
	}
}

// wantAlike holds all that the cells and their store tell against the plain ones.
func (r *rowOf) wantAlike() {
	r.t.Helper()
	wantValues(r.t, r.c, r.p.values...)
	if r.s.Off() != r.twin.Off() || r.s.Pending() != r.twin.Pending() || r.s.Writes() != r.twin.Writes() {
		r.t.Errorf("the store: %v, %d, %d; want %v, %d, %d", r.s.Off(), r.s.Pending(), r.s.Writes(), r.twin.Off(), r.twin.Pending(), r.twin.Writes())
	}
	if !slices.EqualFunc(r.s.Image(), r.twin.Image(), bytes.Equal) {
		r.t.Error("the sectors aren't as they should be")
	}
}

// P6.1 to P6.3: long rows of all calls, on stores of any content, with a power that fails and comes back, against the plain cells: what is answered, told and written.
func TestRows(t *testing.T) {
	for seed := range int64(150) {
		r := &rowOf{t: t, rnd: rand.New(rand.NewSource(seed))}
		r.begin()
		r.wantAlike()
		for step := 0; step < 200 && !t.Failed(); step++ {
			r.play()
			r.wantAlike()
		}
		if t.Failed() {
			t.Fatalf("seed %d", seed)
		}
	}
}
