package layout_test

import (
	"fmt"
	"strings"
	"testing"

	"lagoon/api"
)

// P14.1, P14.2: segments and their bytes, written down.
func TestSegmentRows(t *testing.T) {
	segments().wantBytes(t, api.Segment{}, "\x00\x00")
	segments().wantBytes(t, api.Segment{Inodes: [8]bool{true}, Blocks: [24]bool{1: true}}, "\x01\x02")
	segments().wantBytes(t, api.Segment{Inodes: [8]bool{7: true}, Blocks: [24]bool{23: true}}, "\x80\x01\x80\x80\x80\x04")
	segments().wantBytes(t, api.Segment{Inodes: [8]bool{0: true, 3: true}, Blocks: [24]bool{0: true, 2: true, 8: true, 15: true, 16: true}}, "\x09\x85\x82\x06")
	all := api.Segment{}
	for i := range all.Inodes {
		all.Inodes[i] = true
	}
	segments().wantBytes(t, all, "\xff\x01\x00")
	for i := range all.Blocks {
		all.Blocks[i] = true
	}
	segments().wantBytes(t, all, "\xff\x01\xff\xff\xff\x07")
	all.Inodes = [8]bool{}
	segments().wantBytes(t, all, "\x00\xff\xff\xff\x07")
}

// P14.1, P14.2: each inode and each block alone, and all but it.
func TestSegmentEach(t *testing.T) {
	for i := range 8 {
		segments().wantBytes(t, segmentOf(1<<i, 0), formsOf(1<<i, 0))
		segments().wantBytes(t, segmentOf(255-1<<i, 0), formsOf(255-1<<i, 0))
		segments().wantBytes(t, segmentOf(255-1<<i, 1<<24-1), formsOf(255-1<<i, 1<<24-1))
		var x api.Segment
		x.Inodes[i] = true
		segments().wantBytes(t, x, formsOf(1<<i, 0))
	}
	for i := range 24 {
		segments().wantBytes(t, segmentOf(0, 1<<i), formsOf(0, 1<<i))
		segments().wantBytes(t, segmentOf(0, 1<<24-1-1<<i), formsOf(0, 1<<24-1-1<<i))
		segments().wantBytes(t, segmentOf(255, 1<<24-1-1<<i), formsOf(255, 1<<24-1-1<<i))
		var x api.Segment
		x.Blocks[i] = true
		segments().wantBytes(t, x, formsOf(0, 1<<i))
	}
	for n := range 256 {
		segments().wantBytes(t, segmentOf(n, n*65793), formsOf(n, n*65793))
	}
}

// P14.2, P14.4: a bit above the last inode or block, alone and beside all others.
func TestSegmentAbove(t *testing.T) {
	for bit := range 63 {
		if bit >= 8 {
			for _, rest := range []int{0, 1, 128, 255} {
				segments().wantForm(t, fmt.Sprint("inode ", bit), formsOf(1<<bit+rest, 0))
				segments().wantForm(t, fmt.Sprint("inode ", bit), formsOf(1<<bit+rest, 5))
			}
		}
		if bit >= 24 {
			for _, rest := range []int{0, 1, 1 << 23, 1<<24 - 1} {
				segments().wantForm(t, fmt.Sprint("block ", bit), formsOf(0, 1<<bit+rest))
				segments().wantForm(t, fmt.Sprint("block ", bit), formsOf(7, 1<<bit+rest))
			}
		}
	}
	segments().wantForm(t, "all bits of inodes", formsOf(1<<63-1, 0))
	segments().wantForm(t, "all bits of blocks", formsOf(0, 1<<63-1))
	segments().wantForm(t, "256 inodes", formsOf(256, 0))
	segments().wantForm(t, "2^24 blocks", formsOf(0, 1<<24))
}

// P14.2, P14.4: bytes that are cut, have more behind, or a number in a longer form; and no bytes.
func TestSegmentForm(t *testing.T) {
	segments().wantForm(t, "no bytes", "")
	for _, l := range [][2]int{{0, 0}, {1, 2}, {127, 128}, {128, 1 << 14}, {255, 1<<24 - 1}, {5, 1 << 21}} {
		segments().wantNumbers(t, l[:]...)
		segments().wantSpoilt(t, formsOf(l[:]...))
	}
	segments().wantForm(t, "one number", "\x01")
	segments().wantForm(t, "three numbers", "\x01\x02\x03")
	segments().wantForm(t, "many numbers", strings.Repeat("\x01", 1<<20))
}
