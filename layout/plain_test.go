package layout_test

import (
	"encoding/binary"
	"regexp"

	"lagoon/api"
)

// Plain ones: what may be, and in which bytes, told in other ways than the program's.

// plainNumbers are the numbers whose forms, one behind the other, are just these bytes, and whether there are such.
func plainNumbers(s string) ([]int, bool) {
	var l []int
	for s != "" {
		n, size := plainNumber(s)
		if size == 0 {
			return nil, false
		}
		l = append(l, n)
		s = s[size:]
	}
	return l, true
}

// plainNumber is the number with whose form bytes begin, and how many bytes that has; none, if they begin with no form.
func plainNumber(s string) (int, int) {
	n, size := binary.Uvarint([]byte(s))
	if size <= 0 || n > 1<<63-1 || form(int(n)) != s[:size] {
		return 0, 0
	}
	return int(n), size
}

// names matches those that are one.
var names = regexp.MustCompile(`\A[a-z0-9.]{1,6}\z`)

// plainName tells whether a text is a name.
func plainName(s string) bool {
	return names.MatchString(s)
}

func plainBlockBytes(b api.Block) (string, bool) {
	if b == (api.Block{}) {
		return "", true
	}
	if !within(b.Ver, 1, maxCount) || len(b.Data) > dataBytes {
		return "", false
	}
	return form(b.Ver) + b.Data, true
}

func plainBlock(s string) (api.Block, bool) {
	if s == "" {
		return api.Block{}, true
	}
	ver, size := plainNumber(s)
	b := api.Block{Ver: ver, Data: s[size:]}
	if !within(ver, 1, maxCount) || len(b.Data) > dataBytes {
		return api.Block{}, false
	}
	return b, true
}

// numbersOf are the nine numbers of an inode.
func numbersOf(x api.Inode) []int {
	return []int{int(x.Kind), x.Gen, x.Links, x.Size, x.Direct[0], x.Direct[1], x.Direct[2], x.Direct[3], x.Indirect}
}

// inodeOf is the inode of nine numbers.
func inodeOf(l []int) api.Inode {
	return api.Inode{Kind: api.Kind(l[0]), Gen: l[1], Links: l[2], Size: l[3], Direct: [4]int{l[4], l[5], l[6], l[7]}, Indirect: l[8]}
}

// plainInodeMayBe tells whether nine numbers may be an inode's, by each one's bounds.
func plainInodeMayBe(l []int) bool {
	if !within(l[0], 0, 2) || !within(l[1], 0, maxCount) {
		return false
	}
	mostLinks, mostSize := []int{0, 9, 1}[l[0]], []int{0, 384, 128}[l[0]]
	if !within(l[2], min(l[0], 1), mostLinks) || !within(l[3], 0, mostSize) {
		return false
	}
	for _, b := range l[4:8] {
		if b != 0 && (l[0] == 0 || !isData(b)) {
			return false
		}
	}
	switch l[0] {
	case 1:
		return isPointer(l[8])
	case 2:
		return within(l[8], 0, 15)
	}
	return l[8] == 0
}

func plainInodeBytes(x api.Inode) (string, bool) {
	l := numbersOf(x)
	if !plainInodeMayBe(l) {
		return "", false
	}
	return formsOf(l...), true
}

func plainInode(s string) (api.Inode, bool) {
	l, is := plainNumbers(s)
	if !is || len(l) != 9 || !plainInodeMayBe(l) {
		return api.Inode{}, false
	}
	return inodeOf(l), true
}

func plainPointersBytes(l [8]int) (string, bool) {
	for _, b := range l {
		if !isPointer(b) {
			return "", false
		}
	}
	return formsOf(l[:]...), true
}

func plainPointers(s string) ([8]int, bool) {
	l, is := plainNumbers(s)
	if !is || len(l) != 8 {
		return [8]int{}, false
	}
	if _, may := plainPointersBytes([8]int(l)); !may {
		return [8]int{}, false
	}
	return [8]int(l), true
}

func plainEntriesBytes(l []api.Entry) (string, bool) {
	s := ""
	for i, e := range l {
		if i == 8 || !plainName(e.Name) || !within(e.Ino, 0, 15) || i > 0 && e.Name <= l[i-1].Name {
			return "", false
		}
		s += string([]byte{byte(len(e.Name))}) + e.Name + string([]byte{byte(e.Ino)})
	}
	return s, true
}

// plainEntries takes entries up byte by byte, as names are shorter, and numbers of inodes lower, than that a form of them has two bytes.
func plainEntries(s string) ([]api.Entry, bool) {
	var l []api.Entry
	for rest := s; rest != ""; {
		end := int(rest[0]) + 1
		if end >= len(rest) {
			return nil, false
		}
		l = append(l, api.Entry{Name: rest[1:end], Ino: int(rest[end])})
		rest = rest[end+1:]
	}
	if again, may := plainEntriesBytes(l); !may || again != s {
		return nil, false
	}
	return l, true
}

func plainSegmentBytes(x api.Segment) (string, bool) {
	inodes, blocks, bit := 0, 0, 1
	for i := range 24 {
		if i < 8 && x.Inodes[i] {
			inodes += bit
		}
		if x.Blocks[i] {
			blocks += bit
		}
		bit *= 2
	}
	return formsOf(inodes, blocks), true
}

func plainSegment(s string) (api.Segment, bool) {
	l, is := plainNumbers(s)
	if !is || len(l) != 2 || l[0] > 255 || l[1] > 1<<24-1 {
		return api.Segment{}, false
	}
	return segmentOf(l[0], l[1]), true
}

// segmentOf is the segment of two sums.
func segmentOf(inodes, blocks int) api.Segment {
	var x api.Segment
	for i := range x.Inodes {
		x.Inodes[i] = inodes%2 == 1
		inodes /= 2
	}
	for i := range x.Blocks {
		x.Blocks[i] = blocks%2 == 1
		blocks /= 2
	}
	return x
}
