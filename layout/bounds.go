package layout

import (
	"slices"

	"lagoon/api"
)

// mostDir is how many bytes a directory has at most: it has no pieces but its direct ones.
const mostDir = api.Direct * api.ChunkBytes

// blockMayBe tells whether a block may be.
func blockMayBe(b api.Block) bool {
	return within(b.Ver, 0, api.MaxCount) && len(b.Data) <= api.DataBytes && (b.Ver > 0 || b.Data == "")
}

// inodeMayBe tells whether an inode may be.
func inodeMayBe(x api.Inode) bool {
	if !within(x.Gen, 0, api.MaxCount) {
		return false
	}
	switch x.Kind {
	case api.None:
		return x == api.Inode{Gen: x.Gen}
	case api.File:
		return within(x.Links, 1, api.MaxLinks) &&
			within(x.Size, 0, api.MaxSize) &&
			pointersMayBe(x.Direct[:]) &&
			isPointer(x.Indirect)
	case api.Dir:
		return x.Links == 1 &&
			within(x.Size, 0, mostDir) &&
			pointersMayBe(x.Direct[:]) &&
			isInode(x.Indirect)
	}
	return false
}

// pointersMayBe tells whether each of these may be a pointer.
func pointersMayBe(l []int) bool {
	return !slices.ContainsFunc(l, func(b int) bool { return !isPointer(b) })
}

// isPointer tells whether a number points to a data block, or to nothing.
func isPointer(b int) bool {
	return b == 0 || Data(b)
}

// isInode tells whether a number is an inode's.
func isInode(i int) bool {
	return within(i, 0, api.MaxInodes-1)
}

// entriesMayBe tells whether entries may be a directory's.
func entriesMayBe(l []api.Entry) bool {
	if len(l) > api.MaxEntries {
		return false
	}
	last := "" // below every name
	for _, e := range l {
		if !Name(e.Name) || !isInode(e.Ino) || e.Name <= last {
			return false
		}
		last = e.Name
	}
	return true
}

// isOfName tells whether a name may have such a byte.
func isOfName(c byte) bool {
	return within(c, 'a', 'z') || within(c, '0', '9') || c == '.'
}

// within tells whether a number is from one to another.
func within[T ~int | ~byte](n, from, to T) bool {
	return from <= n && n <= to
}
