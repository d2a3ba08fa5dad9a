package layout_test

import (
	"fmt"
	"math/rand"
	"testing"
)

// P14.1, P14.2: pointers and their bytes, written down.
func TestPointersRows(t *testing.T) {
	for s, l := range map[string][8]int{
		"\x00\x00\x00\x00\x00\x00\x00\x00": {},
		"\x20\x00\x00\x00\x00\x00\x00\x00": {32},
		"\x00\x00\x00\x00\x00\x00\x00\x4f": {7: 79},
		"\x20\x21\x22\x23\x24\x25\x26\x27": {32, 33, 34, 35, 36, 37, 38, 39},
		"\x4f\x4e\x4d\x4c\x4b\x4a\x49\x48": {79, 78, 77, 76, 75, 74, 73, 72},
		"\x37\x37\x37\x37\x38\x38\x38\x38": {55, 55, 55, 55, 56, 56, 56, 56},
		"\x00\x30\x00\x31\x00\x32\x00\x33": {0, 48, 0, 49, 0, 50, 0, 51},
	} {
		pointerRows().wantBytes(t, l, s)
	}
}

// P14.1, P14.2: each of the eight, at the bounds of what may be and past them, alone and beside others.
func TestPointersEdges(t *testing.T) {
	for _, was := range [][8]int{{}, {32, 79, 33, 78, 34, 77, 35, 76}, {79, 79, 79, 79, 79, 79, 79, 79}} {
		for i := range was {
			for _, n := range pointers() {
				l := was
				l[i] = n
				pointerRows().wantEither(t, l, isPointer(n))
				if n >= 0 && !isPointer(n) {
					pointerRows().wantForm(t, fmt.Sprint("number ", i, " ", n), formsOf(l[:]...))
				}
			}
		}
	}
}

// P14.2, P14.4: bytes that are cut, have more behind, or a number in a longer form; and no bytes.
func TestPointersForm(t *testing.T) {
	pointerRows().wantForm(t, "no bytes", "")
	rnd := rand.New(rand.NewSource(1))
	rows := [][8]int{{}, {32, 79, 33, 78, 34, 77, 35, 76}}
	for range 3 {
		rows = append(rows, randomPointers(rnd))
	}
	for _, l := range rows {
		pointerRows().wantNumbers(t, l[:]...)
		pointerRows().wantSpoilt(t, formsOf(l[:]...))
	}
	for n := range 20 {
		if n != 8 {
			pointerRows().wantForm(t, fmt.Sprint(n, " numbers"), formsOf(make([]int, n)...))
		}
	}
}
