package layout_test

import (
	"testing"

	"lagoon/api"
	"lagoon/layout"
)

// newBlocks are the blocks of a new disk that aren't zero, written down.
func newBlocks() map[int]api.Block {
	return map[int]api.Block{
		1:  {Ver: 1, Data: "\x02\x01\x01\x00\x00\x00\x00\x00\x00"},
		17: {Ver: 1, Data: "\x01\x00"},
		18: {Ver: 1, Data: "\x00\x00"},
	}
}

// wantNew holds a disk's blocks, each one, against those of a new one.
func wantNew(t *testing.T, what string, d api.Disk) {
	t.Helper()
	if len(d) != 128 {
		t.Fatalf("%s has %d blocks", what, len(d))
	}
	want := newBlocks()
	for i, b := range d {
		if b != want[i] {
			t.Errorf("%s: block %d is %d, %x; want %d, %x", what, i, b.Ver, b.Data, want[i].Ver, want[i].Data)
		}
	}
}

// P14.3: each of the 128 blocks, and what they say.
func TestNew(t *testing.T) {
	d := layout.New()
	wantNew(t, "New()", d)
	inodes().wantThing(t, d[1].Data, api.Inode{Kind: kDir, Gen: 1, Links: 1})
	segments().wantThing(t, d[17].Data, api.Segment{Inodes: [8]bool{true}})
	segments().wantThing(t, d[18].Data, api.Segment{})
	for _, b := range d {
		blocks().wantEither(t, b, true)
	}
}

// R7, P14.3: what was done to one new disk doesn't touch another.
func TestNewApart(t *testing.T) {
	a, b := layout.New(), layout.New()
	for i := range a {
		a[i] = api.Block{Ver: i + 9, Data: mixed(i%39, i)}
	}
	wantNew(t, "the other disk", b)
	wantNew(t, "a later disk", layout.New())
	for i := range b {
		b[i] = api.Block{}
	}
	for i := range a {
		if a[i] != (api.Block{Ver: i + 9, Data: mixed(i%39, i)}) {
			t.Errorf("block %d: %v", i, a[i])
		}
	}
	wantNew(t, "a third disk", layout.New())
}

// The chapter's examples.
func TestExamples(t *testing.T) {
	inodes().wantBytes(t, api.Inode{Kind: kDir, Gen: 1, Links: 1}, "\x02\x01\x01\x00\x00\x00\x00\x00\x00")
	directories().wantBytes(t, []api.Entry{{Name: "a", Ino: 3}, {Name: "b", Ino: 4}}, "\x01a\x03\x01b\x04")
	directories().wantRange(t, []api.Entry{{Name: "b", Ino: 3}, {Name: "a", Ino: 4}})
	segments().wantBytes(t, api.Segment{Inodes: [8]bool{true}, Blocks: [24]bool{1: true}}, "\x01\x02")
	blocks().wantBytes(t, api.Block{Ver: 300, Data: "x"}, "\xac\x02x")
	wantName(t, "", false)
	wantName(t, "A", false)
	wantName(t, "abcdefg", false)
	wantName(t, "a.1", true)
}
