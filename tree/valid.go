package tree

import (
	"strings"

	"lagoon/api"
	"lagoon/layout"
)

// rootMayBe tells whether a node may be inode 0, beside what holds of each one.
func rootMayBe(n api.Node) bool {
	return n.Kind == api.Dir && n.Gen >= rootGen && n.Parent == rootIno
}

// nodesMayBe tells whether each node may be, whatever the others are.
func nodesMayBe(t api.Tree) bool {
	for _, n := range t {
		if !within(n.Gen, 0, api.MaxCount) || !nodeMayBe(n) {
			return false
		}
	}
	return true
}

// nodeMayBe tells whether a node may be one of its kind.
func nodeMayBe(n api.Node) bool {
	switch n.Kind {
	case api.None:
		return n.Links == 0 && n.Parent == 0 && hasNoBytes(n) && len(n.Entries) == 0
	case api.File:
		return within(n.Links, 1, api.MaxLinks) && n.Parent == 0 && bytesMayBe(n) && len(n.Entries) == 0
	case api.Dir:
		return n.Links == 1 && hasNoBytes(n) && entriesMayBe(n.Entries)
	}
	return false
}

// hasNoBytes tells whether a node has neither bytes nor pieces of a file.
func hasNoBytes(n api.Node) bool {
	return n.Data == "" && n.Chunks == chunks{}
}

// bytesMayBe tells whether a node's bytes and pieces may be a file's.
func bytesMayBe(n api.Node) bool {
	if len(n.Data) > api.MaxSize {
		return false
	}
	for k, there := range n.Chunks {
		piece := pieceOf(n.Data, k)
		if there && piece == "" || !there && !isZeros(piece) {
			return false
		}
	}
	return true
}

// pieceOf is what of a file's bytes stands in a piece.
func pieceOf(data string, k int) string {
	from := min(k*api.ChunkBytes, len(data))
	to := min(from+api.ChunkBytes, len(data))
	return data[from:to]
}

// isZeros tells whether bytes are zeros alone.
func isZeros(s string) bool {
	return strings.Trim(s, "\x00") == ""
}

// entriesMayBe tells whether entries may be a directory's: layer 14 has bytes for just these.
func entriesMayBe(l []api.Entry) bool {
	_, err := layout.EncodeEntries(l)
	return err == api.OK
}

// entriesLeadWell tells whether, of nodes that may be, each one is led to by as many entries as it has links, but inode 0 by none, and each directory by one of its parent's.
func entriesLeadWell(t api.Tree) bool {
	var missing [api.MaxInodes]int
	for i, n := range t {
		if i != rootIno {
			missing[i] = n.Links
		}
	}
	for i, n := range t {
		for _, e := range n.Entries {
			missing[e.Ino]--
			if to := t[e.Ino]; to.Kind == api.Dir && to.Parent != i {
				return false
			}
		}
	}
	return missing == [api.MaxInodes]int{}
}

// allStandBelowRoot tells whether going from parent to parent leads to inode 0 from each node, where all parents are inodes.
func allStandBelowRoot(t api.Tree) bool {
	for i := range t {
		if !isBelow(t, i, rootIno) {
			return false
		}
	}
	return true
}

// isBelow tells whether an inode is another one, or stands below it. It goes no farther than there are inodes, as parents may go round.
func isBelow(t api.Tree, i, top int) bool {
	for range t {
		if i == top {
			return true
		}
		i = t[i].Parent
	}
	return false
}

// isInode tells whether a number is an inode's.
func isInode(i int) bool {
	return within(i, 0, api.MaxInodes-1)
}

// within tells whether a number is from one to another.
func within(n, from, to int) bool {
	return from <= n && n <= to
}
