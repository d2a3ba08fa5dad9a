package tree_test

import (
	"fmt"
	"math"
	"math/rand"
	"slices"
	"strconv"
	"strings"
	"testing"

	"lagoon/api"
	"lagoon/tree"
)

// The numbers, as the document tells them.
const (
	maxCount   = 1 << 40
	maxSize    = 384
	maxIO      = 64
	allInodes  = 16
	allPieces  = 12
	mostBlocks = 48

	ok          api.Errno = 0
	errRange    api.Errno = 2
	errKind     api.Errno = 19
	errNoEnt    api.Errno = 40
	errExist    api.Errno = 41
	errNotDir   api.Errno = 42
	errIsDir    api.Errno = 43
	errNotEmpty api.Errno = 44
	errNoSpace  api.Errno = 45
	errName     api.Errno = 46
	errHandle   api.Errno = 47
	errLoop     api.Errno = 48
	errBig      api.Errno = 49
	errLinks    api.Errno = 50
	errCorrupt  api.Errno = 51

	kNone api.Kind = 0
	kFile api.Kind = 1
	kDir  api.Kind = 2
)

// farOff is numbers near the ends of int, and such as come to small ones, if bits of them get lost.
func farOff() []int {
	return []int{math.MinInt, math.MinInt + 1, math.MinInt + 40, -1 << 40, -1 << 32, -1<<32 + 1, -1<<16 + 1, -255, -64, -2, -1, 1<<8 + 1, 1<<16 + 1, 1<<32 + 1, 1<<40 + 1, 1<<41 + 1, 1<<62 + 1, math.MaxInt - 383, math.MaxInt - 63, math.MaxInt - 1, math.MaxInt}
}

// wrongNames are texts that are no names.
func wrongNames() []string {
	return []string{"", "A", "abcdefg", "a b", "a/", "-", "_", "a\x00", "\x00", "\xff", "ä", "`", "{", "a\n", ":", ".-", strings.Repeat("a", 1<<16)}
}

// kinds are those of all operations.
func kinds() []api.OpKind {
	return []api.OpKind{api.OpLookup, api.OpCreate, api.OpMkdir, api.OpLink, api.OpUnlink, api.OpRmdir, api.OpRename, api.OpRead, api.OpWrite, api.OpTrunc, api.OpStat, api.OpReaddir, api.OpSync}
}

// noKinds are such as no operation has.
func noKinds() []api.OpKind {
	l := []api.OpKind{0, 14, 15, 16}
	for _, n := range farOff() {
		l = append(l, api.OpKind(n))
	}
	return l
}

// file is one with bytes, and with these pieces there, beside all that have a byte that isn't zero.
func file(gen, links int, data string, there ...int) api.Node {
	n := api.Node{Kind: kFile, Gen: gen, Links: links, Data: data}
	for i := range len(data) {
		if data[i] != 0 {
			n.Chunks[i/32] = true
		}
	}
	for _, k := range there {
		n.Chunks[k] = true
	}
	return n
}

// dir is one with entries, told as names and inodes in turn.
func dir(gen, parent int, entries string) api.Node {
	n := api.Node{Kind: kDir, Gen: gen, Links: 1, Parent: parent}
	words := strings.Fields(entries)
	for i := 0; i < len(words); i += 2 {
		ino, err := strconv.Atoi(words[i+1])
		if err != nil {
			panic(err)
		}
		n.Entries = append(n.Entries, api.Entry{Name: words[i], Ino: ino})
	}
	return n
}

// none is a None of a generation.
func none(gen int) api.Node {
	return api.Node{Gen: gen}
}

// within tells whether a number is from one to another.
func within(n, from, to int) bool {
	return from <= n && n <= to
}

// zeros is so many of them.
func zeros(n int) string {
	return strings.Repeat("\x00", n)
}

// mixed is so many bytes of all kinds but zero.
func mixed(n, seed int) string {
	b := make([]byte, n)
	for i := range b {
		b[i] = byte((i*i*7+i*31+seed*113)%255 + 1)
	}
	return string(b)
}

// wood is a tree with something of all: two files with a link, one with 9 and one with 7 of them; directories that are empty (3), have 7 (6) and 8 entries (4), and one of three (2, 8, 10) below each other; Nones that were never made, were, and are worn.
func wood() api.Tree {
	return api.Tree{
		0:  dir(1, 0, "a 1 b 5 d 2 e 3 f 4 s 6"),
		1:  file(3, 1, mixed(32, 1)+zeros(32)+mixed(36, 2)),
		2:  dir(2, 0, "sub 8 x 9"),
		3:  dir(7, 0, ""),
		4:  dir(1, 0, "k1 5 k2 5 k3 5 k4 5 k5 5 k6 5 k7 5 k8 5"),
		5:  file(maxCount, 9, zeros(130)+"\x01"),
		6:  dir(1, 0, "n1 7 n2 7 n3 7 n4 7 n5 7 n6 7 n7 7"),
		7:  file(4, 7, ""),
		8:  dir(2, 2, "deep 10"),
		9:  file(1, 1, "x"),
		10: dir(maxCount, 8, ""),
		12: none(maxCount),
		13: none(5),
		14: none(maxCount),
	}
}

// worn is a tree in which each None of wood has had its last generation.
func worn() api.Tree {
	t := wood()
	t[11], t[13], t[15] = none(maxCount), none(maxCount), none(maxCount)
	return t
}

// laden is a tree that takes so many data blocks: its last files get zeros and pieces, till it does.
func laden(t api.Tree, blocks int) api.Tree {
	for i := allInodes - 1; i >= 0; i-- {
		for k := allPieces - 1; t[i].Kind == kFile && k >= 0; k-- {
			n := t[i]
			n.Data += zeros(maxSize - len(n.Data))
			n.Chunks[k] = true
			if more := put(t, i, n); plainUsed(more) <= blocks {
				t = more
			}
		}
	}
	if plainUsed(t) != blocks {
		panic(fmt.Sprint(plainUsed(t), " blocks, not ", blocks))
	}
	return t
}

// put is a tree with another node in one place.
func put(t api.Tree, i int, n api.Node) api.Tree {
	t[i] = n
	return t
}

// at is an inode's handle.
func at(t api.Tree, i int) api.Handle {
	return api.Handle{Ino: i, Gen: t[i].Gen}
}

// copyOf is a tree of other memory, with no list that is empty but not nil.
func copyOf(t api.Tree) api.Tree {
	for i := range t {
		t[i].Entries = append([]api.Entry(nil), t[i].Entries...)
	}
	return t
}

// sameTree tells whether two trees are one.
func sameTree(x, y api.Tree) bool {
	for i := range x {
		if !sameNode(x[i], y[i]) {
			return false
		}
	}
	return true
}

// sameNode tells whether two nodes are one, nil and the empty list too.
func sameNode(x, y api.Node) bool {
	return x.Kind == y.Kind && x.Gen == y.Gen && x.Links == y.Links && x.Parent == y.Parent && x.Data == y.Data && x.Chunks == y.Chunks && slices.Equal(x.Entries, y.Entries)
}

// sameReply tells whether two replies are one.
func sameReply(x, y api.Reply) bool {
	return x.Code == y.Code && x.Handle == y.Handle && x.Kind == y.Kind && x.Size == y.Size && x.Links == y.Links && x.Data == y.Data && slices.Equal(x.Names, y.Names)
}

// shown is a tree to be read, without the Nones that were never made.
func shown(t api.Tree) string {
	var s strings.Builder
	for i, n := range t {
		if sameNode(n, api.Node{}) {
			continue
		}
		var there []int
		for k, is := range n.Chunks {
			if is {
				there = append(there, k)
			}
		}
		fmt.Fprintf(&s, "\n  %d: kind %d, gen %d, links %d, parent %d, %d bytes %.40q, pieces %v, entries %v", i, n.Kind, n.Gen, n.Links, n.Parent, len(n.Data), n.Data, there, n.Entries)
	}
	return s.String()
}

// oneOf is one of some things.
func oneOf[T any](rnd *rand.Rand, things ...T) T {
	return things[rnd.Intn(len(things))]
}

// wantPlain wants an operation to be done as the plain tree does it; what was handed in to stay; and what is answered, to be a tree that may be, if that was one. It answers what the program did.
func wantPlain(t *testing.T, was api.Tree, prefer int, op api.Op) (api.Tree, api.Reply) {
	t.Helper()
	given := copyOf(was)
	got, reply := tree.Do(was, prefer, op)
	want, wanted := plainDo(given, prefer, op)
	if !sameTree(was, given) {
		t.Errorf("Do(%+v) changes what it was handed to%s\nfrom%s", op, shown(was), shown(given))
	}
	if !sameReply(reply, wanted) || !sameTree(got, want) {
		t.Errorf("prefer %d, Do(%+v) of%s\nanswers %+v and%s\nwanted %+v and%s", prefer, op, shown(given), reply, shown(got), wanted, shown(want))
	}
	if tree.Valid(given) && !tree.Valid(got) {
		t.Errorf("Do(%+v) of%s\nanswers a tree that may not be:%s", op, shown(given), shown(got))
	}
	if (reply.Code != ok || changesNothing(op.Kind)) && !sameTree(got, given) {
		t.Errorf("Do(%+v) answers %d, but changes%s\nto%s", op, reply.Code, shown(given), shown(got))
	}
	return got, reply
}

// changesNothing tells whether operations of a kind leave each tree as it is.
func changesNothing(kind api.OpKind) bool {
	return kind == api.OpLookup || kind == api.OpRead || kind == api.OpStat || kind == api.OpReaddir || kind == api.OpSync
}

// wantCode wants an operation to answer a code alone, and the tree to stay.
func wantCode(t *testing.T, was api.Tree, op api.Op, code api.Errno) {
	t.Helper()
	for _, prefer := range []int{0, 1} {
		got, reply := wantPlain(t, was, prefer, op)
		if !sameReply(reply, api.Reply{Code: code}) {
			t.Errorf("Do(%+v): %+v; want the code %d alone", op, reply, code)
		}
		if !sameTree(got, was) {
			t.Errorf("Do(%+v), which answers %d, changes the tree to%s", op, code, shown(got))
		}
	}
}

// wantTold wants an operation to answer a reply, and the tree to stay.
func wantTold(t *testing.T, was api.Tree, op api.Op, reply api.Reply) {
	t.Helper()
	wantDone(t, was, op, reply, nil)
}

// wantDone wants an operation to answer a reply, and the tree to become that with these nodes.
func wantDone(t *testing.T, was api.Tree, op api.Op, reply api.Reply, nodes map[int]api.Node) api.Tree {
	t.Helper()
	return wantMade(t, was, 0, op, reply, nodes)
}

// wantMade is wantDone with a prefer.
func wantMade(t *testing.T, was api.Tree, prefer int, op api.Op, reply api.Reply, nodes map[int]api.Node) api.Tree {
	t.Helper()
	got, told := wantPlain(t, was, prefer, op)
	want := was
	for i, n := range nodes {
		want[i] = n
	}
	if !sameReply(told, reply) {
		t.Errorf("prefer %d, Do(%+v): %+v; want %+v", prefer, op, told, reply)
	}
	if !sameTree(got, want) {
		t.Errorf("prefer %d, Do(%+v) makes%s\nwant%s", prefer, op, shown(got), shown(want))
	}
	return got
}

// wantMayBe wants a tree to be one that may be.
func wantMayBe(t *testing.T, what string, x api.Tree) {
	t.Helper()
	if !tree.Valid(x) || !plainValid(x) {
		t.Errorf("%s: Valid is %v, the plain one %v; want true, of%s", what, tree.Valid(x), plainValid(x), shown(x))
	}
	if got, want := tree.Used(x), plainUsed(x); got != want {
		t.Errorf("%s: Used is %d; want %d, of%s", what, got, want, shown(x))
	}
}

// wantMayNotBe wants a tree to be one that may not be: each operation answers ErrCorrupt, and the tree as it was.
func wantMayNotBe(t *testing.T, what string, x api.Tree) {
	t.Helper()
	if tree.Valid(x) || plainValid(x) {
		t.Errorf("%s: Valid is %v, the plain one %v; want false, of%s", what, tree.Valid(x), plainValid(x), shown(x))
		return
	}
	tree.Used(x)
	for _, kind := range append(kinds(), 0, 14, -1) {
		wantCode(t, x, api.Op{Kind: kind, At: at(x, 0), Name: "new", To: at(x, 0), Toname: "newer", Data: "x"}, errCorrupt)
	}
	wantCode(t, x, api.Op{Kind: api.OpLookup, At: api.Handle{Ino: -1}}, errCorrupt)
}
