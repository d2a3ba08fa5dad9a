package layout_test

import (
	"fmt"
	"testing"

	"lagoon/api"
	"lagoon/layout"
)

// Inodes that may be, with all their fields in use.
func someFile() api.Inode {
	return api.Inode{Kind: kFile, Gen: 300, Links: 7, Size: 200, Direct: [4]int{33, 0, 79, 44}, Indirect: 56}
}

func someDir() api.Inode {
	return api.Inode{Kind: kDir, Gen: 5, Links: 1, Size: 100, Direct: [4]int{40, 32, 71, 50}, Indirect: 9}
}

// fields are the places of an inode's nine numbers, by name.
var fields = []string{"Kind", "Gen", "Links", "Size", "Direct 0", "Direct 1", "Direct 2", "Direct 3", "Indirect"}

// wantField wants an inode with any number in one place to be as it should: its bytes there and back, or ErrRange; and the bytes of what may not be to be refused.
func wantField(t *testing.T, x api.Inode, place int, numbers []int, may func(int) bool) {
	t.Helper()
	for _, n := range append(numbers, farOff()...) {
		l := numbersOf(x)
		l[place] = n
		inodes().wantEither(t, inodeOf(l), may(n))
		if n >= 0 && !may(n) {
			inodes().wantForm(t, fmt.Sprint(fields[place], " ", n), formsOf(l...))
		}
	}
}

// only is a field that may have just one number.
func only(n int) func(int) bool {
	return func(k int) bool { return k == n }
}

// from is a field with bounds.
func from(least, most int) func(int) bool {
	return func(k int) bool { return within(k, least, most) }
}

// P14.1, P14.2: inodes and their bytes, written down.
func TestInodeRows(t *testing.T) {
	for s, x := range map[string]api.Inode{
		"\x00\x00\x00\x00\x00\x00\x00\x00\x00":                         {},
		"\x00\x01\x00\x00\x00\x00\x00\x00\x00":                         {Gen: 1},
		"\x00\xac\x02\x00\x00\x00\x00\x00\x00\x00":                     {Gen: 300},
		"\x00\x80\x80\x80\x80\x80\x20\x00\x00\x00\x00\x00\x00\x00":     {Gen: 1 << 40},
		"\x01\x00\x01\x00\x00\x00\x00\x00\x00":                         {Kind: kFile, Links: 1},
		"\x01\x02\x03\x04\x20\x21\x22\x23\x24":                         {Kind: kFile, Gen: 2, Links: 3, Size: 4, Direct: [4]int{32, 33, 34, 35}, Indirect: 36},
		"\x01\x80\x80\x80\x80\x80\x20\x09\x80\x03\x4f\x4e\x4d\x4c\x4b": {Kind: kFile, Gen: 1 << 40, Links: 9, Size: 384, Direct: [4]int{79, 78, 77, 76}, Indirect: 75},
		"\x01\xac\x02\x07\xc8\x01\x21\x00\x4f\x2c\x38":                 someFile(),
		"\x02\x01\x01\x00\x00\x00\x00\x00\x00":                         {Kind: kDir, Gen: 1, Links: 1},
		"\x02\x00\x01\x00\x00\x00\x00\x00\x0f":                         {Kind: kDir, Links: 1, Indirect: 15},
		"\x02\x80\x80\x80\x80\x80\x20\x01\x80\x01\x20\x4f\x20\x4f\x0e": {Kind: kDir, Gen: 1 << 40, Links: 1, Size: 128, Direct: [4]int{32, 79, 32, 79}, Indirect: 14},
		"\x02\x05\x01\x64\x28\x20\x47\x32\x09":                         someDir(),
		"\x01\xff\xff\xff\xff\xff\x1f\x01\x7f\x00\x00\x00\x4f\x20":     {Kind: kFile, Gen: 1<<40 - 1, Links: 1, Size: 127, Direct: [4]int{0, 0, 0, 79}, Indirect: 32},
		"\x02\x80\x80\x80\x80\x80\x20\x01\x80\x01\x00\x00\x00\x00\x00": {Kind: kDir, Gen: 1 << 40, Links: 1, Size: 128},
		"\x01\x01\x01\x80\x03\x00\x00\x00\x00\x00":                     {Kind: kFile, Gen: 1, Links: 1, Size: 384},
		"\x01\x01\x01\x00\x20\x20\x20\x20\x20":                         {Kind: kFile, Gen: 1, Links: 1, Direct: [4]int{32, 32, 32, 32}, Indirect: 32},
		"\x02\x01\x01\x00\x00\x00\x00\x4f\x01":                         {Kind: kDir, Gen: 1, Links: 1, Direct: [4]int{0, 0, 0, 79}, Indirect: 1},
		"\x01\x80\x80\x80\x80\x80\x20\x09\xff\x02\x00\x20\x00\x4f\x00": {Kind: kFile, Gen: 1 << 40, Links: 9, Size: 383, Direct: [4]int{0, 32, 0, 79}},
		"\x02\x80\x80\x80\x80\x80\x10\x01\x7f\x4f\x20\x4f\x20\x00":     {Kind: kDir, Gen: 1 << 39, Links: 1, Size: 127, Direct: [4]int{79, 32, 79, 32}},
		"\x01\x80\x80\x80\x80\x80\x10\x08\x80\x02\x4f\x20\x4f\x20\x4f": {Kind: kFile, Gen: 1 << 39, Links: 8, Size: 256, Direct: [4]int{79, 32, 79, 32}, Indirect: 79},
		"\x00\xff\xff\xff\xff\xff\x1f\x00\x00\x00\x00\x00\x00\x00":     {Gen: 1<<40 - 1},
		"\x01\x7f\x02\x80\x01\x37\x38\x00\x00\x00":                     {Kind: kFile, Gen: 127, Links: 2, Size: 128, Direct: [4]int{55, 56}},
		"\x02\x80\x01\x01\x01\x37\x00\x00\x00\x08":                     {Kind: kDir, Gen: 128, Links: 1, Size: 1, Direct: [4]int{55}, Indirect: 8},
		"\x01\x80\x80\x01\x01\x20\x00\x00\x00\x00\x37":                 {Kind: kFile, Gen: 1 << 14, Links: 1, Size: 32, Indirect: 55},
		"\x02\x80\x80\x80\x01\x01\x20\x38\x00\x00\x00\x07":             {Kind: kDir, Gen: 1 << 21, Links: 1, Size: 32, Direct: [4]int{56}, Indirect: 7},
		"\x01\x80\x80\x80\x80\x01\x01\x60\x00\x38\x37\x00\x00":         {Kind: kFile, Gen: 1 << 28, Links: 1, Size: 96, Direct: [4]int{0, 56, 55}},
		"\x01\x80\x80\x80\x80\x10\x01\x21\x00\x00\x00\x00\x4e":         {Kind: kFile, Gen: 1 << 32, Links: 1, Size: 33, Indirect: 78},
		"\x02\x80\x80\x80\x80\x10\x01\x21\x4e\x4f\x00\x00\x0d":         {Kind: kDir, Gen: 1 << 32, Links: 1, Size: 33, Direct: [4]int{78, 79}, Indirect: 13},
		"\x00\x80\x80\x80\x80\x10\x00\x00\x00\x00\x00\x00\x00":         {Gen: 1 << 32},
		"\x01\x81\x80\x80\x80\x10\x09\x80\x03\x20\x21\x22\x23\x24":     {Kind: kFile, Gen: 1<<32 + 1, Links: 9, Size: 384, Direct: [4]int{32, 33, 34, 35}, Indirect: 36},
		"\x02\x81\x80\x80\x80\x10\x01\x80\x01\x24\x23\x22\x21\x0f":     {Kind: kDir, Gen: 1<<32 + 1, Links: 1, Size: 128, Direct: [4]int{36, 35, 34, 33}, Indirect: 15},
		"\x00\x81\x80\x80\x80\x10\x00\x00\x00\x00\x00\x00\x00":         {Gen: 1<<32 + 1},
		"\x01\x00\x09\x00\x00\x00\x00\x00\x4f":                         {Kind: kFile, Links: 9, Indirect: 79},
		"\x02\x00\x01\x00\x4f\x00\x00\x00\x00":                         {Kind: kDir, Links: 1, Direct: [4]int{79}},
		"\x01\x03\x01\x06\x00\x00\x28\x00\x00":                         {Kind: kFile, Gen: 3, Links: 1, Size: 6, Direct: [4]int{0, 0, 40}},
	} {
		inodes().wantBytes(t, x, s)
	}
}

// P14.1, P14.2: each Kind: of None all but Gen is zero.
func TestInodeKinds(t *testing.T) {
	kinds := []int{-2, -1, 0, 1, 2, 3, 4, 257}
	wantField(t, api.Inode{}, 0, kinds, only(0))
	wantField(t, api.Inode{Gen: 7}, 0, kinds, only(0))
	wantField(t, someFile(), 0, kinds, only(1))
	wantField(t, someDir(), 0, kinds, only(2))
	wantField(t, api.Inode{Kind: kFile, Gen: 1, Links: 1}, 0, kinds, from(1, 2))
	wantField(t, api.Inode{Kind: kFile, Gen: 1, Links: 1, Size: 128, Direct: [4]int{32, 0, 79, 0}}, 0, kinds, from(1, 2))
	for _, x := range []api.Inode{{}, {Gen: 1}, {Gen: maxCount}} {
		for place := 2; place < 9; place++ {
			wantField(t, x, place, append(pointers(), 2, 9, 10, 128, 384), only(0))
		}
	}
}

// P14.1, P14.2: each Kind's Gen.
func TestInodeGen(t *testing.T) {
	for _, x := range []api.Inode{{}, someFile(), someDir()} {
		wantField(t, x, 1, []int{-2, -1, 0, 1, 2, maxCount - 1, maxCount, maxCount + 1, maxCount + 2, 1 << 41}, from(0, maxCount))
		for _, n := range farOff() {
			l := numbersOf(x)
			l[1] = n
			inodes().wantEither(t, inodeOf(l), within(n, 0, maxCount))
		}
	}
}

// P14.1, P14.2: a File's numbers, at their bounds and past them.
func TestInodeFile(t *testing.T) {
	for _, x := range []api.Inode{someFile(), {Kind: kFile, Links: 1}} {
		wantField(t, x, 2, []int{-9, -1, 0, 1, 2, 8, 9, 10, 11}, from(1, 9))
		wantField(t, x, 3, []int{-384, -1, 0, 1, 31, 32, 127, 128, 129, 383, 384, 385, 386, 512}, from(0, maxSize))
		for place := 4; place < 9; place++ {
			wantField(t, x, place, pointers(), isPointer)
		}
	}
}

// P14.1, P14.2: a Dir's numbers, at their bounds and past them.
func TestInodeDir(t *testing.T) {
	for _, x := range []api.Inode{someDir(), {Kind: kDir, Links: 1}} {
		wantField(t, x, 2, []int{-1, 0, 1, 2, 3, 9}, only(1))
		wantField(t, x, 3, []int{-128, -1, 0, 1, 127, 128, 129, 130, 384}, from(0, mostDir))
		for place := 4; place < 8; place++ {
			wantField(t, x, place, pointers(), isPointer)
		}
		wantField(t, x, 8, append(pointers(), 2, 14, 15, 16, 17), from(0, 15))
	}
}

// P14.2, P14.4: bytes that are cut, have more behind, or a number in a longer form; and no bytes.
func TestInodeForm(t *testing.T) {
	inodes().wantForm(t, "no bytes", "")
	for _, x := range []api.Inode{{}, {Gen: maxCount}, someFile(), someDir(), {Kind: kFile, Gen: maxCount, Links: 9, Size: 384, Direct: [4]int{79, 79, 79, 79}, Indirect: 79}, {Kind: kDir, Links: 1}} {
		inodes().wantNumbers(t, numbersOf(x)...)
		s, err := layout.EncodeInode(x)
		if err != ok {
			t.Fatalf("EncodeInode(%v): %d", x, err)
		}
		inodes().wantSpoilt(t, s)
	}
}
