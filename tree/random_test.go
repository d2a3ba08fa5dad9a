package tree_test

import (
	"fmt"
	"math/rand"

	"lagoon/api"
)

// randomTree is one that may be: what a row of operations, most of which make something, leaves of a tree.
func randomTree(rnd *rand.Rand) api.Tree {
	x := oneOf(rnd, wood(), worn(), api.Tree{0: dir(1, 0, "")}, fresh(rnd))
	for range rnd.Intn(20) {
		x, _ = plainDo(x, rnd.Intn(4)-1, likelyOp(rnd, x))
	}
	return x
}

// fresh is an empty tree, whose inodes have had some generations, a few of them the last.
func fresh(rnd *rand.Rand) api.Tree {
	x := api.Tree{0: dir(oneOf(rnd, 1, 2, maxCount), 0, "")}
	for i := 1; i < allInodes; i++ {
		x[i].Gen = oneOf(rnd, 0, 0, 1, 300, maxCount-2, maxCount-1, maxCount)
	}
	return x
}

// someName is one of a few names, so that they meet, and of all lengths.
func someName(rnd *rand.Rand) string {
	return oneOf(rnd, "a", "b", "c", "d", "e", "f", "g", "z9", "x.y", "abcd", "long.5", "longer", "k1", "k2", "n1", "sub", "deep", "s", fmt.Sprint("l", 10000+rnd.Intn(12)))
}

// likelyHandle is the handle of an inode of a kind, if there is one, and now and then of any.
func likelyHandle(rnd *rand.Rand, x api.Tree, kind api.Kind) api.Handle {
	i := rnd.Intn(allInodes)
	for range 40 {
		if x[i].Kind == kind {
			break
		}
		i = rnd.Intn(allInodes)
	}
	h := at(x, i)
	switch rnd.Intn(60) {
	case 0:
		h.Gen += oneOf(rnd, -1, 1, 1<<32)
	case 1:
		h.Ino += oneOf(rnd, -1, 1, 16, -16, 1<<32)
	case 2:
		h = at(x, rnd.Intn(allInodes))
	}
	return h
}

// likelyName is a name in a directory, or a name of any kind.
func likelyName(rnd *rand.Rand, x api.Tree, h api.Handle) string {
	if l := entriesOf(x, h); len(l) > 0 && rnd.Intn(3) > 0 {
		return l[rnd.Intn(len(l))].Name
	}
	if rnd.Intn(60) == 0 {
		return oneOf(rnd, wrongNames()...)
	}
	return someName(rnd)
}

// entriesOf is the entries of a handle's inode, if there is one.
func entriesOf(x api.Tree, h api.Handle) []api.Entry {
	if h.Ino < 0 || h.Ino >= allInodes {
		return nil
	}
	return x[h.Ino].Entries
}

// likelyOp is an operation that is likely to be done.
func likelyOp(rnd *rand.Rand, x api.Tree) api.Op {
	return opOf(rnd, x, oneOf(rnd, append(kinds(), api.OpCreate, api.OpCreate, api.OpCreate, api.OpMkdir, api.OpMkdir, api.OpLink, api.OpLink, api.OpRename, api.OpRename, api.OpWrite, api.OpWrite, api.OpWrite, api.OpTrunc)...))
}

// opOf is an operation of a kind that is likely to be done.
func opOf(rnd *rand.Rand, x api.Tree, kind api.OpKind) api.Op {
	want := kDir
	switch kind {
	case api.OpLink, api.OpRead, api.OpWrite, api.OpTrunc:
		want = kFile
	case api.OpStat:
		want = oneOf(rnd, kFile, kDir)
	}
	op := api.Op{Kind: kind, At: likelyHandle(rnd, x, want), To: likelyHandle(rnd, x, kDir)}
	op.Name, op.Toname = likelyName(rnd, x, op.At), someName(rnd)
	if rnd.Intn(3) == 0 {
		op.Toname = likelyName(rnd, x, op.To)
	}
	op.Off = oneOf(rnd, rnd.Intn(maxSize+1), rnd.Intn(maxSize+1), rnd.Intn(100), 32*rnd.Intn(13), oneOf(rnd, 0, -1, 320, 383, 384, 385))
	op.Len = oneOf(rnd, rnd.Intn(maxIO+1), maxIO, oneOf(rnd, 0, -1, maxIO+1))
	op.Data = oneOf(rnd, mixed(rnd.Intn(maxIO+1), rnd.Intn(99)), mixed(rnd.Intn(9), rnd.Intn(99)), zeros(rnd.Intn(maxIO+1)), mixed(oneOf(rnd, 0, maxIO, maxIO+1), 3))
	if rnd.Intn(40) == 0 {
		n := oneOf(rnd, farOff()...)
		op.Off, op.Len = oneOf(rnd, n, op.Off), oneOf(rnd, n, op.Len)
	}
	return op
}

// spoilt is a tree with something changed, so that most may not be any more.
func spoilt(rnd *rand.Rand, x api.Tree) api.Tree {
	x = copyOf(x)
	i := rnd.Intn(allInodes)
	n := &x[i]
	switch rnd.Intn(9) {
	case 0:
		n.Gen = oneOf(rnd, -1, 0, 1, maxCount, maxCount+1, n.Gen+1)
	case 1:
		n.Kind = api.Kind(rnd.Intn(5) - 1)
	case 2:
		n.Links += oneOf(rnd, -1, 1)
	case 3:
		n.Parent = rnd.Intn(18) - 1
	case 4:
		n.Data = oneOf(rnd, n.Data+zeros(rnd.Intn(9)), n.Data[:rnd.Intn(len(n.Data)+1)], n.Data+"x", mixed(385, 1))
	case 5:
		k := rnd.Intn(allPieces)
		n.Chunks[k] = !n.Chunks[k]
	case 6:
		n.Entries = append(n.Entries, api.Entry{Name: oneOf(rnd, someName(rnd), "zzzzzz", ""), Ino: rnd.Intn(18) - 1})
	case 7:
		if l := n.Entries; len(l) > 0 {
			l[rnd.Intn(len(l))] = api.Entry{Name: someName(rnd), Ino: rnd.Intn(allInodes)}
		}
	case 8:
		k := rnd.Intn(allInodes)
		x[i], x[k] = x[k], x[i]
	}
	return x
}
