package cache_test

import (
	"encoding/binary"
	"fmt"
	"math"
	"slices"
	"testing"

	"lagoon/api"
	"lagoon/cache"
)

// The numbers, as the document tells them.
const (
	maxCount  = 1 << 40
	dataBytes = 38
	longest   = 540
	nBlocks   = 128
	lastHome  = 79

	ok       api.Errno = 0
	errNil   api.Errno = 1
	errRange api.Errno = 2
	errStale api.Errno = 25
	errBusy  api.Errno = 26
)

// farOff are numbers that are far beside all bounds.
func farOff() []int {
	return []int{math.MinInt, math.MinInt + 1, -1 << 40, -1 << 32, -80, -2, 128, 256 + 5, 1<<32 + 5, 1<<32 + 1<<41, 1 << 62, math.MaxInt - 1, math.MaxInt}
}

// mixed is a text of n bytes that hangs on x.
func mixed(n, x int) string {
	b := make([]byte, n)
	for i := range b {
		b[i] = byte(x*31 + i*7 + i/5)
	}
	return string(b)
}

// value is a block's.
func value(ver int, data string) api.Block {
	return api.Block{Ver: ver, Data: data}
}

// one is a record of one update.
func one(block, ver int, data string) []api.Update {
	return []api.Update{{Block: block, Ver: ver, Data: data}}
}

// of is a record that brings each block its next version from ver on, whose bytes hang on x.
func of(ver, x int, blocks ...int) []api.Update {
	var u []api.Update
	for _, b := range blocks {
		u = append(u, api.Update{Block: b, Ver: ver, Data: mixed((b+x)%9, b+x)})
	}
	return u
}

// lengthOf is how many bytes updates take as a record, whatever these are.
func lengthOf(u []api.Update) int {
	form := func(n int) int { return len(binary.AppendUvarint(nil, uint64(max(n, 0)))) }
	n := 4 + form(len(u))
	for _, x := range u {
		n += form(x.Block) + form(x.Ver) + form(len(x.Data)) + len(x.Data)
	}
	return n
}

// wide is a record of the blocks 1 to 14, version 1, that takes just n bytes.
func wide(n int) []api.Update {
	u := of(1, 0, 1, 2, 3, 4, 5, 6, 7, 8, 9, 10, 11, 12, 13, 14)
	for i := range u {
		u[i].Data = ""
		u[i].Data = mixed(min(dataBytes, n-lengthOf(u)), i)
	}
	return u
}

// wantErr holds an error against the one that should be.
func wantErr(t *testing.T, what string, got, want api.Errno) {
	t.Helper()
	if got != want {
		t.Errorf("%s: %d; want %d", what, got, want)
	}
}

// box is a cache that is tested.
type box struct {
	*cache.Cache
	t *testing.T
}

// newBox is a new one, in which these blocks are known with the version 0.
func newBox(t *testing.T, blocks ...int) *box {
	t.Helper()
	c := cache.New()
	if c == nil {
		t.Fatal("New answers none")
	}
	x := &box{c, t}
	for _, b := range blocks {
		x.loaded(b, 0, "")
	}
	return x
}

// loaded loads a block, and wants that to go well.
func (x *box) loaded(b, ver int, data string) {
	x.t.Helper()
	wantErr(x.t, "Load", x.Load(b, value(ver, data)), ok)
}

// committed commits records, and wants that to go well.
func (x *box) committed(records ...[]api.Update) {
	x.t.Helper()
	for _, u := range records {
		wantErr(x.t, "Commit", x.Commit(u), ok)
	}
}

// logged logs just these records, in order.
func (x *box) logged(records ...[]api.Update) {
	x.t.Helper()
	for _, u := range records {
		x.wantFirst(u)
		if !x.Logged() {
			x.t.Error("Logged: false; want true")
		}
	}
}

// cleaned has a block of a version be clean.
func (x *box) cleaned(b, ver int) {
	x.t.Helper()
	if !x.Clean(b, ver) {
		x.t.Errorf("Clean(%d, %d): false; want true", b, ver)
	}
}

// wantUnclean wants Clean to say no, and to change nothing.
func (x *box) wantUnclean(what string, b, ver int) {
	x.t.Helper()
	x.still(what, func() {
		if x.Clean(b, ver) {
			x.t.Errorf("%s: Clean(%d, %d): true; want false", what, b, ver)
		}
	})
}

// wantFirst wants a record to be the first one.
func (x *box) wantFirst(want []api.Update) {
	x.t.Helper()
	u, is := x.First()
	if !is || !slices.Equal(u, want) {
		x.t.Errorf("First: %s, %t; want %s", shown(u), is, shown(want))
	}
}

// wantNoFirst wants no record to be there.
func (x *box) wantNoFirst() {
	x.t.Helper()
	if u, is := x.First(); is || len(u) > 0 {
		x.t.Errorf("First: %s, %t; want none", shown(u), is)
	}
	if x.Logged() {
		x.t.Error("Logged without a record: true")
	}
}

// wantReady wants these blocks to be ready.
func (x *box) wantReady(want ...api.Update) {
	x.t.Helper()
	if u := x.Ready(); !slices.Equal(u, want) {
		x.t.Errorf("Ready: %s; want %s", shown(u), shown(want))
	}
}

// wantDirty wants Dirty to say so.
func (x *box) wantDirty(want bool) {
	x.t.Helper()
	if x.Dirty() != want {
		x.t.Errorf("Dirty: %t; want %t", !want, want)
	}
}

// wantKnown wants just these blocks to be known.
func (x *box) wantKnown(want map[int]api.Block) {
	x.t.Helper()
	d, has := x.Disk()
	for b := range nBlocks {
		v, is := want[b]
		if d[b] != v || has[b] != is {
			x.t.Errorf("Disk: block %d: %d %q, %t; want %d %q, %t", b, d[b].Ver, d[b].Data, has[b], v.Ver, v.Data, is)
		}
	}
}

// shown is updates as they are told where a test fails.
func shown(u []api.Update) string {
	s := "["
	for _, x := range u {
		s += fmt.Sprintf("{%d %d %q}", x.Block, x.Ver, x.Data)
	}
	return s + "]"
}

// told is what a cache tells of itself.
type told struct {
	disk     api.Disk
	has      [nBlocks]bool
	first    []api.Update
	is       bool
	ready    []api.Update
	anyDirty bool
}

// tell is what it tells now.
func (x *box) tell() told {
	var y told
	y.disk, y.has = x.Disk()
	y.first, y.is = x.First()
	y.ready, y.anyDirty = x.Ready(), x.Dirty()
	return y
}

// String tells it by the blocks that are known.
func (y told) String() string {
	s := ""
	for b, is := range y.has {
		if is || y.disk[b] != (api.Block{}) {
			s += fmt.Sprintf("%d %t %d %q, ", b, is, y.disk[b].Ver, y.disk[b].Data)
		}
	}
	return fmt.Sprintf("%sfirst %t %s, ready %s, dirty %t", s, y.is, shown(y.first), shown(y.ready), y.anyDirty)
}

// alike tells whether two tell the same, nil and the empty list too.
func (y told) alike(z told) bool {
	return y.disk == z.disk && y.has == z.has && y.is == z.is && y.anyDirty == z.anyDirty && slices.Equal(y.first, z.first) && slices.Equal(y.ready, z.ready)
}

// still does a thing, and wants the cache to tell what it told.
func (x *box) still(what string, do func()) {
	x.t.Helper()
	was := x.tell()
	do()
	if is := x.tell(); !is.alike(was) {
		x.t.Errorf("%s: the cache tells %v; it told %v", what, is, was)
	}
}

// wantRefused wants a record to be refused, and nothing to change.
func (x *box) wantRefused(what string, u []api.Update, want api.Errno) {
	x.t.Helper()
	x.still(what, func() { wantErr(x.t, what+": Commit", x.Commit(u), want) })
}

// emptied logs all records and cleans all blocks that are ready then; it is how far a cache that a refusal has left goes on as if nothing had been.
func (x *box) emptied(records [][]api.Update, ready ...api.Update) {
	x.t.Helper()
	x.logged(records...)
	x.wantNoFirst()
	x.wantReady(ready...)
	for _, u := range ready {
		x.wantDirty(true)
		x.cleaned(u.Block, u.Ver)
	}
	x.wantReady()
	x.wantDirty(false)
}
