package tree_test

import (
	"testing"

	"lagoon/api"
)

// renamed is an OpRename.
func renamed(at api.Handle, name string, to api.Handle, toname string) api.Op {
	return api.Op{Kind: api.OpRename, At: at, Name: name, To: to, Toname: toname}
}

// P17.2: the codes of OpRename, in their order: each with such as come behind it.
func TestRenameCodes(t *testing.T) {
	w, full := wood(), laden(wood(), 48)
	h := func(i int) api.Handle { return at(w, i) }
	wantCodes(t, api.OpRename, []step{
		{"At a file, no name, To not good", w, renamed(h(1), "A", h(13), "A"), errNotDir},
		{"no name, To not good", w, renamed(h(0), "A", h(13), "A"), errName},
		{"no name, To a file", w, renamed(h(0), "", h(1), "A"), errName},
		{"no name, Toname no name", w, renamed(h(0), "", h(0), ""), errName},
		{"To not good, Toname no name, no entry", w, renamed(h(0), "new", h(13), "A"), errHandle},
		{"To a file, Toname no name, no entry", w, renamed(h(0), "new", h(1), "A"), errNotDir},
		{"To a file", w, renamed(h(0), "a", h(5), "new"), errNotDir},
		{"Toname no name, no entry", w, renamed(h(0), "new", h(4), "A"), errName},
		{"Toname no name, 8 entries", w, renamed(h(0), "a", h(4), "A"), errName},
		{"no entry, onto the same", w, renamed(h(0), "new", h(0), "new"), errNoEnt},
		{"no entry, 8 entries", w, renamed(h(0), "new", h(4), "new"), errNoEnt},
		{"no entry, onto a directory", w, renamed(h(3), "a", h(0), "d"), errNoEnt},
		{"of another directory", w, renamed(h(0), "sub", h(3), "new"), errNoEnt},
		{"no entry, no room", full, renamed(h(0), "new", h(3), "new"), errNoEnt},

		{"under itself", w, renamed(h(0), "e", h(3), "new"), errLoop},
		{"under itself, no room", full, renamed(h(0), "e", h(3), "new"), errLoop},
		{"under itself, 8 entries", w, renamed(h(0), "f", h(4), "new"), errLoop},
		{"under itself, onto its file", w, renamed(h(0), "d", h(2), "x"), errLoop},
		{"under itself, onto what isn't empty", w, renamed(h(0), "d", h(2), "sub"), errLoop},
		{"below itself", w, renamed(h(0), "d", h(8), "new"), errLoop},
		{"below itself, onto an empty one", w, renamed(h(0), "d", h(8), "deep"), errLoop},
		{"far below itself", w, renamed(h(0), "d", h(10), "new"), errLoop},
		{"below itself, not from inode 0", w, renamed(h(2), "sub", h(10), "new"), errLoop},
		{"under itself, not from inode 0", w, renamed(h(2), "sub", h(8), "deep"), errLoop},

		{"a directory onto a file", w, renamed(h(0), "e", h(0), "a"), errNotDir},
		{"a directory onto a file of another", w, renamed(h(0), "s", h(2), "x"), errNotDir},
		{"a directory onto a file, 8 entries", w, renamed(h(0), "e", h(4), "k1"), errNotDir},
		{"a file onto an empty directory", w, renamed(h(0), "a", h(0), "e"), errIsDir},
		{"a file onto a directory with entries", w, renamed(h(0), "a", h(2), "sub"), errIsDir},
		{"a file onto a directory above it", w, renamed(h(2), "x", h(0), "d"), errIsDir},
		{"a directory onto one with entries", w, renamed(h(0), "e", h(0), "d"), errNotEmpty},
		{"a directory onto one above it", w, renamed(h(2), "sub", h(0), "d"), errNotEmpty},
		{"a directory onto one far above it", w, renamed(h(8), "deep", h(0), "d"), errNotEmpty},
		{"a directory onto one with 8 entries", full, renamed(h(0), "e", h(0), "f"), errNotEmpty},

		{"a file, 8 entries", w, renamed(h(0), "a", h(4), "new"), errNoSpace},
		{"a directory, 8 entries", w, renamed(h(0), "e", h(4), "k"), errNoSpace},
		{"8 entries, no room", full, renamed(h(0), "e", h(4), "new"), errNoSpace},
		{"no room for the first piece", full, renamed(h(0), "a", h(3), "b"), errNoSpace},
		{"no room for the second piece", full, renamed(h(0), "a", h(6), "n8."), errNoSpace},
		{"no room, though At has a piece less then", full, renamed(h(8), "deep", h(3), "deep"), errNoSpace},
	})
}

// P17.2: OpRename onto nothing, within one directory and between two.
func TestRenameOntoNothing(t *testing.T) {
	w := wood()
	h := func(i int) api.Handle { return at(w, i) }
	wantDone(t, w, renamed(h(0), "a", h(0), "z"), done(), map[int]api.Node{
		0: dir(1, 0, "b 5 d 2 e 3 f 4 s 6 z 1")})
	wantDone(t, w, renamed(h(0), "s", h(0), "0"), done(), map[int]api.Node{
		0: dir(1, 0, "0 6 a 1 b 5 d 2 e 3 f 4")})
	wantDone(t, w, renamed(h(0), "d", h(0), "d2"), done(), map[int]api.Node{
		0: dir(1, 0, "a 1 b 5 d2 2 e 3 f 4 s 6")})
	wantDone(t, w, renamed(h(8), "deep", h(8), "d"), done(), map[int]api.Node{
		8: dir(2, 2, "d 10")})
	wantDone(t, w, renamed(h(4), "k8", h(4), "k"), done(), map[int]api.Node{
		4: dir(1, 0, "k 5 k1 5 k2 5 k3 5 k4 5 k5 5 k6 5 k7 5")})
	wantDone(t, w, renamed(h(4), "k1", h(4), "longer"), done(), map[int]api.Node{
		4: dir(1, 0, "k2 5 k3 5 k4 5 k5 5 k6 5 k7 5 k8 5 longer 5")})

	wantDone(t, w, renamed(h(0), "a", h(3), "a"), done(), map[int]api.Node{
		0: dir(1, 0, "b 5 d 2 e 3 f 4 s 6"), 3: dir(7, 0, "a 1")})
	wantDone(t, w, renamed(h(4), "k5", h(6), "b"), done(), map[int]api.Node{
		4: dir(1, 0, "k1 5 k2 5 k3 5 k4 5 k6 5 k7 5 k8 5"), 6: dir(1, 0, "b 5 n1 7 n2 7 n3 7 n4 7 n5 7 n6 7 n7 7")})
	wantDone(t, w, renamed(h(0), "d", h(3), "under"), done(), map[int]api.Node{
		0: dir(1, 0, "a 1 b 5 e 3 f 4 s 6"), 2: dir(2, 3, "sub 8 x 9"), 3: dir(7, 0, "under 2")})
	wantDone(t, w, renamed(h(0), "e", h(10), "e"), done(), map[int]api.Node{
		0: dir(1, 0, "a 1 b 5 d 2 f 4 s 6"), 3: dir(7, 10, ""), 10: dir(maxCount, 8, "e 3")})
	wantDone(t, w, renamed(h(2), "sub", h(0), "up"), done(), map[int]api.Node{
		0: dir(1, 0, "a 1 b 5 d 2 e 3 f 4 s 6 up 8"), 2: dir(2, 0, "x 9"), 8: dir(2, 0, "deep 10")})
	wantDone(t, w, renamed(h(8), "deep", h(2), "deep"), done(), map[int]api.Node{
		2: dir(2, 0, "deep 10 sub 8 x 9"), 8: dir(2, 2, ""), 10: dir(maxCount, 2, "")})
}

// P17.2: OpRename onto what is there: the same file, by one entry or by two, or another one.
func TestRenameOnto(t *testing.T) {
	w := wood()
	h := func(i int) api.Handle { return at(w, i) }
	for _, op := range []api.Op{
		renamed(h(0), "a", h(0), "a"), renamed(h(0), "e", h(0), "e"), renamed(h(0), "d", h(0), "d"), renamed(h(8), "deep", h(8), "deep"),
		renamed(h(4), "k1", h(4), "k2"), renamed(h(0), "b", h(4), "k3"), renamed(h(4), "k8", h(0), "b"), renamed(h(6), "n7", h(6), "n1")} {
		wantTold(t, w, op, done())
		wantTold(t, laden(worn(), 48), op, done())
	}

	wantDone(t, w, renamed(h(0), "a", h(2), "x"), done(), map[int]api.Node{
		0: dir(1, 0, "b 5 d 2 e 3 f 4 s 6"), 2: dir(2, 0, "sub 8 x 1"), 9: none(1)})
	wantDone(t, w, renamed(h(2), "x", h(0), "a"), done(), map[int]api.Node{
		0: dir(1, 0, "a 9 b 5 d 2 e 3 f 4 s 6"), 1: none(3), 2: dir(2, 0, "sub 8")})
	wantDone(t, w, renamed(h(0), "a", h(0), "b"), done(), map[int]api.Node{
		0: dir(1, 0, "b 1 d 2 e 3 f 4 s 6"), 5: linked(w[5], 8)})
	wantDone(t, w, renamed(h(0), "b", h(0), "a"), done(), map[int]api.Node{
		0: dir(1, 0, "a 5 d 2 e 3 f 4 s 6"), 1: none(3)})
	wantDone(t, w, renamed(h(0), "a", h(4), "k2"), done(), map[int]api.Node{
		0: dir(1, 0, "b 5 d 2 e 3 f 4 s 6"), 4: dir(1, 0, "k1 5 k2 1 k3 5 k4 5 k5 5 k6 5 k7 5 k8 5"), 5: linked(w[5], 8)})
	wantDone(t, w, renamed(h(4), "k1", h(6), "n7"), done(), map[int]api.Node{
		4: dir(1, 0, "k2 5 k3 5 k4 5 k5 5 k6 5 k7 5 k8 5"), 6: dir(1, 0, "n1 7 n2 7 n3 7 n4 7 n5 7 n6 7 n7 5"), 7: linked(w[7], 6)})

	wantDone(t, w, renamed(h(0), "d", h(0), "e"), done(), map[int]api.Node{
		0: dir(1, 0, "a 1 b 5 e 2 f 4 s 6"), 3: none(7)})
	wantDone(t, w, renamed(h(0), "s", h(8), "deep"), done(), map[int]api.Node{
		0: dir(1, 0, "a 1 b 5 d 2 e 3 f 4"), 6: dir(1, 8, "n1 7 n2 7 n3 7 n4 7 n5 7 n6 7 n7 7"), 8: dir(2, 2, "deep 6"), 10: none(maxCount)})
	wantDone(t, w, renamed(h(2), "sub", h(0), "e"), done(), map[int]api.Node{
		0: dir(1, 0, "a 1 b 5 d 2 e 8 f 4 s 6"), 2: dir(2, 0, "x 9"), 3: none(7), 8: dir(2, 0, "deep 10")})
}

// P17.2: the room of OpRename: what To has more, though other things are set free.
func TestRenameRoom(t *testing.T) {
	x := wood()
	x[0] = dir(1, 0, "aaaaa1 1 b 5 d 2 e 3 f 4 ssss 6 z 9")
	x[2], x[9] = dir(2, 0, "sub 8 x 9"), file(1, 2, "x")
	if used := plainUsed(x); used != 11 {
		t.Fatalf("%d blocks: the directory 0 hasn't a piece alone", used)
	}
	full, roomy := laden(x, 48), laden(x, 47)
	h := func(i int) api.Handle { return at(x, i) }
	room := func(op api.Op, nodes map[int]api.Node) {
		t.Helper()
		wantCode(t, full, op, errNoSpace)
		wantDone(t, roomy, op, done(), nodes)
	}
	still := func(op api.Op, nodes map[int]api.Node) {
		t.Helper()
		wantDone(t, full, op, done(), nodes)
	}
	still(renamed(h(0), "z", h(0), "zz"), map[int]api.Node{0: dir(1, 0, "aaaaa1 1 b 5 d 2 e 3 f 4 ssss 6 zz 9")})
	still(renamed(h(0), "z", h(0), "zzzz"), map[int]api.Node{0: dir(1, 0, "aaaaa1 1 b 5 d 2 e 3 f 4 ssss 6 zzzz 9")})
	room(renamed(h(0), "z", h(0), "zzzzz"), map[int]api.Node{0: dir(1, 0, "aaaaa1 1 b 5 d 2 e 3 f 4 ssss 6 zzzzz 9")})
	still(renamed(h(0), "aaaaa1", h(0), "aaaaa"), map[int]api.Node{0: dir(1, 0, "aaaaa 1 b 5 d 2 e 3 f 4 ssss 6 z 9")})
	still(renamed(h(2), "x", h(0), "b"), map[int]api.Node{0: dir(1, 0, "aaaaa1 1 b 9 d 2 e 3 f 4 ssss 6 z 9"), 2: dir(2, 0, "sub 8"), 5: linked(full[5], 8)})
	still(renamed(h(2), "x", h(0), "0"), map[int]api.Node{0: dir(1, 0, "0 9 aaaaa1 1 b 5 d 2 e 3 f 4 ssss 6 z 9"), 2: dir(2, 0, "sub 8")}) // just 32 bytes then
	room(renamed(h(2), "x", h(0), "02"), map[int]api.Node{0: dir(1, 0, "02 9 aaaaa1 1 b 5 d 2 e 3 f 4 ssss 6 z 9"), 2: dir(2, 0, "sub 8")})
	room(renamed(h(8), "deep", h(3), "d"), map[int]api.Node{3: dir(7, 0, "d 10"), 8: dir(2, 2, ""), 10: dir(maxCount, 3, "")})
	still(renamed(h(0), "aaaaa1", h(2), "x"), map[int]api.Node{0: dir(1, 0, "b 5 d 2 e 3 f 4 ssss 6 z 9"), 2: dir(2, 0, "sub 8 x 1"), 9: linked(full[9], 1)})
}

// P17.2: OpRename of any entry onto any other, beside the plain tree: all there are, and some that there aren't.
func TestRenameAll(t *testing.T) {
	handles := func(x api.Tree) []api.Handle {
		l := []api.Handle{{}, {Ino: 16, Gen: 1}}
		for _, i := range []int{0, 1, 2, 3, 4, 6, 8, 10, 13} {
			l = append(l, at(x, i))
		}
		return l
	}
	from := []string{"a", "b", "d", "e", "sub", "deep", "x", "k1", "n2", "s", "new", "A"}
	to := []string{"a", "b", "d", "e", "sub", "deep", "x", "k1", "n2", "0", "longer", "A"}
	for _, x := range []api.Tree{laden(wood(), 47), laden(wood(), 48)} {
		for _, h := range handles(x) {
			for _, name := range from {
				for _, k := range handles(x) {
					for _, toname := range to {
						wantPlain(t, x, 0, renamed(h, name, k, toname))
					}
				}
			}
		}
	}
}
