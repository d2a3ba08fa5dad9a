package wal_test

import (
	"encoding/binary"
	"hash/crc32"
	"math"
	"slices"
	"testing"

	"lagoon/api"
	"lagoon/chain"
	"lagoon/wal"
)

// The numbers, as the document tells them.
const (
	maxCount   = 1 << 40
	dataBytes  = 38
	longest    = 540
	pieceBytes = 36
	logBase    = 80
	logBlocks  = 16
	room       = 15
	nBlocks    = 128
	nServers   = 3
	nStores    = 3

	ok       api.Errno = 0
	errNil   api.Errno = 1
	errRange api.Errno = 2
	errForm  api.Errno = 11
	errSpace api.Errno = 12
	errWorn  api.Errno = 15
	errEpoch api.Errno = 21
	errFence api.Errno = 22
	errLost  api.Errno = 23
	errDown  api.Errno = 24
	errBusy  api.Errno = 26
)

// farOff are numbers that are far beside all bounds.
func farOff() []int {
	return []int{math.MinInt, math.MinInt + 1, -1 << 40, -1 << 32, -80, -2, 1<<32 + 1<<41, 1 << 62, math.MaxInt - 1, math.MaxInt}
}

// form is the form of a number; one below 0 has none, and counts as 0.
func form(n int) string {
	return string(binary.AppendUvarint(nil, uint64(max(n, 0))))
}

// longer is a number's bytes in one more than its form has.
func longer(n int) string {
	b := []byte(form(n))
	b[len(b)-1] |= 0x80
	return string(append(b, 0))
}

// sealed is bytes with their checksum behind.
func sealed(s string) string {
	sum := crc32.Checksum([]byte(s), crc32.MakeTable(crc32.Castagnoli))
	return string(binary.LittleEndian.AppendUint32([]byte(s), sum))
}

// open is the bytes of updates ahead of the sealing, whatever these are.
func open(u []api.Update) string {
	s := form(len(u))
	for _, x := range u {
		s += form(x.Block) + form(x.Ver) + form(len(x.Data)) + x.Data
	}
	return s
}

// bytesOf is the bytes of updates, whatever these are.
func bytesOf(u []api.Update) string {
	return sealed(open(u))
}

// cut is the frames of bytes.
func cut(number int, record string) []string {
	var pieces []string
	for at := 0; at < len(record); at += pieceBytes {
		pieces = append(pieces, record[at:min(at+pieceBytes, len(record))])
	}
	return framed(number, pieces...)
}

// framed is pieces as frames, however long each is.
func framed(number int, pieces ...string) []string {
	var l []string
	for i, piece := range pieces {
		l = append(l, form(number)+form(i)+form(len(pieces))+piece)
	}
	return l
}

// framesOf is the frames of a record.
func framesOf(number int, u []api.Update) []string {
	return cut(number, bytesOf(u))
}

// allFrames is the frames of records, one behind the other, numbered from start on.
func allFrames(start int, records ...[]api.Update) []string {
	var l []string
	for i, u := range records {
		l = append(l, framesOf(start+i, u)...)
	}
	return l
}

// widthOf is how many frames records have.
func widthOf(records ...[]api.Update) int {
	return len(allFrames(1, records...))
}

// one is a record of one update.
func one(block, ver int, data string) []api.Update {
	return []api.Update{{Block: block, Ver: ver, Data: data}}
}

// mixed is a text of n bytes that hangs on x.
func mixed(n, x int) string {
	b := make([]byte, n)
	for i := range b {
		b[i] = byte(x*31 + i*7 + i/5)
	}
	return string(b)
}

// sized is a record of just n bytes, 8 or more, whose bytes hang on x. (Where n is above 540, it may be none.)
func sized(n, x int) []api.Update {
	k := 1
	for 5+41*k < n {
		k++
	}
	left := n - 5 - 3*k
	var u []api.Update
	for i := range k {
		size := min(left, dataBytes)
		left -= size
		u = append(u, api.Update{Block: 1 + i, Ver: 1 + x%127, Data: mixed(size, x+i)})
	}
	return u
}

// wide is a record of so many frames, whose bytes hang on x.
func wide(frames, x int) []api.Update {
	return sized(frames*pieceBytes-x%20, x)
}

// config is a chain's.
func config(epoch int, members, since []int) api.Config {
	return api.Config{Epoch: epoch, Members: members, Since: since}
}

// disk is a chain, and the config by which it is used.
type disk struct {
	*chain.Chain
	t *testing.T
	x api.Config
}

// newDisk is a new one of n storage nodes.
func newDisk(t *testing.T, n int) *disk {
	t.Helper()
	c, err := chain.New(n)
	wantErr(t, "chain.New", err, ok)
	x, err := chain.First(n)
	wantErr(t, "chain.First", err, ok)
	return &disk{c, t, x}
}

// next is the config behind the disk's.
func (d *disk) next(members ...int) api.Config {
	d.t.Helper()
	x, err := chain.Next(d.x, members)
	wantErr(d.t, "chain.Next", err, ok)
	return x
}

// put writes blocks, from one on.
func (d *disk) put(b int, texts ...string) {
	d.t.Helper()
	for i, text := range texts {
		wantErr(d.t, "chain.Write", d.Write(d.x, b+i, text, 2, maxCount), ok)
	}
}

// putLog lays a log: a head, and blocks behind it.
func (d *disk) putLog(owner, start int, blocks ...string) {
	d.t.Helper()
	d.put(headOf(owner), form(start))
	d.put(headOf(owner)+1, blocks...)
}

// headOf is the block of a log's head.
func headOf(owner int) int {
	return logBase + logBlocks*owner
}

// told is all that stands on a disk, of each storage node.
type told struct {
	up     [nStores]bool
	blocks [nStores][nBlocks]api.Cell
	metas  [nStores]api.Meta
	writes [nStores]int
}

// tell is what stands there now.
func (d *disk) tell() told {
	var x told
	for i := range d.Len() {
		x.up[i], x.metas[i], x.writes[i] = d.Up(i), d.Meta(i), d.Writes(i)
		for b := range nBlocks {
			x.blocks[i][b] = d.Block(i, b)
		}
	}
	return x
}

// wantStill wants a disk to be what it was.
func (d *disk) wantStill(what string, was told) {
	d.t.Helper()
	if d.tell() != was {
		d.t.Errorf("%s: the disk isn't as it was", what)
	}
}

// wantBlock holds what a storage node has in a block against what it should.
func (d *disk) wantBlock(i, b, seq int, data string) {
	d.t.Helper()
	if got := d.Block(i, b); got != (api.Cell{Seq: seq, Data: data}) {
		d.t.Errorf("node %d, block %d: %d, %x; want %d, %x", i, b, got.Seq, got.Data, seq, data)
	}
}

// wantErr holds an error against the one that should be.
func wantErr(t *testing.T, what string, got, want api.Errno) {
	t.Helper()
	if got != want {
		t.Errorf("%s: %d; want %d", what, got, want)
	}
}

// equal tells whether two rows of records are one, nil and the empty row too.
func equal(l, k [][]api.Update) bool {
	return slices.EqualFunc(l, k, slices.Equal[[]api.Update])
}

// wantLog holds what a log tells against what it should.
func wantLog(t *testing.T, what string, l *wal.Log, records, free, next int) {
	t.Helper()
	if l.Records() != records || l.Room() != free || l.Next() != next {
		t.Errorf("%s: Records %d, Room %d, Next %d; want %d, %d, %d", what, l.Records(), l.Room(), l.Next(), records, free, next)
	}
}

// opened opens a log, and wants it to have these records.
func (d *disk) opened(owner, writer, gen, start int, want ...[]api.Update) *wal.Log {
	d.t.Helper()
	l, records, err := wal.Open(d.Chain, d.x, owner, writer, gen)
	if l == nil || err != ok {
		d.t.Fatalf("Open(%d, %d, %d): %v, %d", owner, writer, gen, l, err)
	}
	if !equal(records, want) {
		d.t.Errorf("Open(%d, %d, %d): the records %v; want %v", owner, writer, gen, records, want)
	}
	wantLog(d.t, "Open", l, len(want), room-widthOf(want...), start+len(want))
	return l
}

// wantNone wants an opening to answer an error, and nothing beside it.
func (d *disk) wantNone(what string, x api.Config, owner, writer, gen int, want api.Errno) {
	d.t.Helper()
	l, records, err := wal.Open(d.Chain, x, owner, writer, gen)
	if err != want || l != nil || len(records) > 0 {
		d.t.Errorf("%s: Open(%d, %d, %d): %v, %v, %d; want %d", what, owner, writer, gen, l, records, err, want)
	}
}

// appended appends records, and wants that to go well.
func (d *disk) appended(l *wal.Log, records ...[]api.Update) {
	d.t.Helper()
	for _, u := range records {
		wantErr(d.t, "Append", l.Append(d.x, u), ok)
	}
}

// cleared clears a log, and wants that to go well.
func (d *disk) cleared(l *wal.Log) {
	d.t.Helper()
	wantErr(d.t, "Clear", l.Clear(d.x), ok)
}

// wantNodes wants a log to have these records as each storage node has its blocks, and as it is opened.
func (d *disk) wantNodes(owner, start int, want ...[]api.Update) {
	d.t.Helper()
	d.opened(owner, 0, 1, start, want...)
	for i := range d.Len() {
		var blocks []string
		for b := headOf(owner) + 1; b < headOf(owner+1); b++ {
			blocks = append(blocks, d.Block(i, b).Data)
		}
		if got := plainStanding(blocks, start); d.Block(i, headOf(owner)).Data != form(start) || !equal(got, want) {
			d.t.Errorf("node %d: the head %x, the records %v; want %x, %v", i, d.Block(i, headOf(owner)).Data, got, form(start), want)
		}
	}
}
