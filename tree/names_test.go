package tree_test

import (
	"fmt"
	"testing"

	"lagoon/api"
	"lagoon/tree"
)

// step is an operation on a tree, and the code that it answers.
type step struct {
	what string
	tree api.Tree
	op   api.Op
	code api.Errno
}

// wantCodes wants each step to answer its code alone, and its tree to stay.
func wantCodes(t *testing.T, kind api.OpKind, steps []step) {
	t.Helper()
	for _, s := range steps {
		s.op.Kind = kind
		if _, reply := wantPlain(t, s.tree, 0, s.op); reply.Code != s.code {
			t.Errorf("kind %d, %s: the code %d; want %d", kind, s.what, reply.Code, s.code)
		}
		wantCode(t, s.tree, s.op, s.code)
	}
}

// done is the reply of an operation that tells nothing.
func done() api.Reply {
	return api.Reply{}
}

// told is the reply that tells a handle and a kind.
func told(ino, gen int, kind api.Kind) api.Reply {
	return api.Reply{Handle: api.Handle{Ino: ino, Gen: gen}, Kind: kind}
}

// badHandles are handles that aren't good in wood.
func badHandles() map[string]api.Handle {
	bad := map[string]api.Handle{
		"the zero handle":       {},
		"of another Gen":        {Ino: 0, Gen: 2},
		"of a Gen less":         {Ino: 1, Gen: 2},
		"of a Gen more":         {Ino: 1, Gen: 4},
		"of Gen -1":             {Ino: 3, Gen: -1},
		"of a Gen 2^32 more":    {Ino: 3, Gen: 7 + 1<<32},
		"of a None":             {Ino: 13, Gen: 5},
		"of a None of Gen 0":    {Ino: 15},
		"of the next Gen":       {Ino: 13, Gen: 6},
		"of a None of last Gen": {Ino: 14, Gen: maxCount},
		"of inode -1":           {Ino: -1, Gen: 1},
		"of inode 16":           {Ino: 16, Gen: 1},
		"of inode 16, Gen 0":    {Ino: 16},
		"of inode 256":          {Ino: 256, Gen: 1},
	}
	for _, n := range farOff() {
		bad[fmt.Sprint("of inode ", n)] = api.Handle{Ino: n, Gen: 1}
		bad[fmt.Sprint("of Gen ", n)] = api.Handle{Gen: n}
	}
	return bad
}

// P17.2: a handle that isn't good, whatever else is wrong, for each kind that looks at one.
func TestHandles(t *testing.T) {
	w := wood()
	for what, bad := range badHandles() {
		for _, kind := range kinds() {
			op := api.Op{Kind: kind, At: bad, Name: "A", To: bad, Toname: "A", Off: -1, Len: -1}
			if kind == api.OpSync {
				wantTold(t, w, op, done())
				continue
			}
			wantCode(t, w, op, errHandle)
			op = api.Op{Kind: kind, At: bad, Name: "a", To: at(w, 3), Toname: "new"}
			if wantCode(t, w, op, errHandle); t.Failed() {
				t.Fatalf("kind %d, At %s", kind, what)
			}
		}
		wantCode(t, w, api.Op{Kind: api.OpLink, At: at(w, 1), To: bad, Toname: "A"}, errHandle)
		wantCode(t, w, api.Op{Kind: api.OpRename, At: at(w, 0), Name: "a", To: bad, Toname: "A"}, errHandle)
		wantCode(t, w, api.Op{Kind: api.OpRename, At: at(w, 0), Name: "none", To: bad, Toname: "a"}, errHandle)
	}
	for i := range allInodes {
		if h := at(w, i); i <= 10 {
			wantTold(t, w, api.Op{Kind: api.OpStat, At: h, To: api.Handle{Ino: -1}}, statOf(w, i))
		} else {
			wantCode(t, w, api.Op{Kind: api.OpStat, At: h}, errHandle)
		}
	}
}

// P17.2: a name that is none, behind what is wrong with the handle and ahead of all else, for each kind that looks at one.
func TestNames(t *testing.T) {
	w := laden(worn(), 48)
	for _, name := range wrongNames() {
		for _, i := range []int{0, 3, 4} {
			for _, kind := range []api.OpKind{api.OpLookup, api.OpCreate, api.OpMkdir, api.OpUnlink, api.OpRmdir, api.OpRename} {
				wantCode(t, w, api.Op{Kind: kind, At: at(w, i), Name: name, To: at(w, 1), Toname: "A"}, errName)
			}
			wantCode(t, w, api.Op{Kind: api.OpLink, At: at(w, 5), To: at(w, i), Toname: name}, errName)
			wantCode(t, w, api.Op{Kind: api.OpRename, At: at(w, 0), Name: "none", To: at(w, i), Toname: name}, errName)
		}
		for _, kind := range []api.OpKind{api.OpLookup, api.OpCreate, api.OpMkdir, api.OpUnlink, api.OpRmdir, api.OpRename, api.OpReaddir} {
			wantCode(t, w, api.Op{Kind: kind, At: at(w, 1), Name: name, To: at(w, 0), Toname: name}, errNotDir)
		}
		wantCode(t, w, api.Op{Kind: api.OpLink, At: at(w, 5), To: at(w, 1), Toname: name}, errNotDir)
		wantCode(t, w, api.Op{Kind: api.OpRename, At: at(w, 0), Name: "a", To: at(w, 1), Toname: name}, errNotDir)
	}
	for _, name := range []string{".", "..", "0", "9z.", "z99999", "......"} {
		x := put(wood(), 3, dir(7, 0, name+" 1"))
		x[1].Links = 2
		wantTold(t, x, api.Op{Kind: api.OpLookup, At: at(x, 3), Name: name}, told(1, 3, kFile))
		wantMade(t, wood(), 0, api.Op{Kind: api.OpCreate, At: at(x, 3), Name: name}, told(11, 1, kFile), map[int]api.Node{
			3: dir(7, 0, name+" 11"), 11: file(1, 1, "")})
	}
}

// P17.2: an unknown kind, on any tree that may be.
func TestNoKind(t *testing.T) {
	for _, kind := range noKinds() {
		for _, x := range []api.Tree{wood(), tree.New(), laden(worn(), 48)} {
			wantCode(t, x, api.Op{Kind: kind}, errKind)
			wantCode(t, x, api.Op{Kind: kind, At: at(x, 0), Name: "a", To: at(x, 0), Toname: "b", Len: 5, Data: "x"}, errKind)
			wantCode(t, x, api.Op{Kind: kind, At: api.Handle{Ino: -1}, Name: "A", Off: -1}, errKind)
		}
	}
}

// P17.2: OpLookup.
func TestLookup(t *testing.T) {
	w := wood()
	for i, n := range w {
		for _, e := range n.Entries {
			wantTold(t, w, api.Op{Kind: api.OpLookup, At: at(w, i), Name: e.Name}, told(e.Ino, w[e.Ino].Gen, w[e.Ino].Kind))
		}
	}
	wantCodes(t, api.OpLookup, []step{
		{"a file, no name", w, api.Op{At: at(w, 1), Name: ""}, errNotDir},
		{"a file", w, api.Op{At: at(w, 5), Name: "a"}, errNotDir},
		{"no name", w, api.Op{At: at(w, 0), Name: "A"}, errName},
		{"an empty directory", w, api.Op{At: at(w, 3), Name: "a"}, errNoEnt},
		{"ahead of all", w, api.Op{At: at(w, 0), Name: "0"}, errNoEnt},
		{"between two", w, api.Op{At: at(w, 0), Name: "c"}, errNoEnt},
		{"behind all", w, api.Op{At: at(w, 0), Name: "t"}, errNoEnt},
		{"a longer one", w, api.Op{At: at(w, 0), Name: "a0"}, errNoEnt},
		{"a piece of one", w, api.Op{At: at(w, 2), Name: "su"}, errNoEnt},
		{"of another directory", w, api.Op{At: at(w, 0), Name: "sub"}, errNoEnt},
	})
}

// P17.2: OpCreate and OpMkdir, in order of inodes, and by prefer.
func TestMake(t *testing.T) {
	w := wood()
	w[3] = none(4)
	w[0] = dir(1, 0, "a 1 b 5 d 2 f 4 s 6")
	for prefer, want := range map[int][2]int{0: {3, 5}, 2: {3, 5}, -2: {3, 5}, 4: {3, 5}, -1 << 63: {3, 5}, 1 << 62: {3, 5}, 1: {11, 1}, 3: {11, 1}, -1: {11, 1}, -3: {11, 1}, 1<<63 - 1: {11, 1}, -1<<63 + 1: {11, 1}, 1<<32 + 1: {11, 1}} {
		ino, gen := want[0], want[1]
		wantMade(t, w, prefer, api.Op{Kind: api.OpCreate, At: at(w, 2), Name: "new"}, told(ino, gen, kFile), map[int]api.Node{
			2: dir(2, 0, fmt.Sprint("new ", ino, " sub 8 x 9")), ino: {Kind: kFile, Gen: gen, Links: 1}})
		wantMade(t, w, prefer, api.Op{Kind: api.OpMkdir, At: at(w, 2), Name: "a"}, told(ino, gen, kDir), map[int]api.Node{
			2: dir(2, 0, fmt.Sprint("a ", ino, " sub 8 x 9")), ino: {Kind: kDir, Gen: gen, Links: 1, Parent: 2}})
		wantMade(t, w, prefer, api.Op{Kind: api.OpMkdir, At: at(w, 0), Name: "z"}, told(ino, gen, kDir), map[int]api.Node{
			0: dir(1, 0, fmt.Sprint("a 1 b 5 d 2 f 4 s 6 z ", ino)), ino: {Kind: kDir, Gen: gen, Links: 1}})
		wantMade(t, w, prefer, api.Op{Kind: api.OpCreate, At: at(w, 8), Name: "dee"}, told(ino, gen, kFile), map[int]api.Node{
			8: dir(2, 2, fmt.Sprint("dee ", ino, " deep 10")), ino: {Kind: kFile, Gen: gen, Links: 1}})
	}
}

// P17.2: which inode is made: each None of each Gen, with each prefer.
func TestMadeInode(t *testing.T) {
	for free := range 1 << 15 {
		if free&(free-1) != 0 && free%37 > 0 { // all rows of one None, and some of more
			continue
		}
		x := api.Tree{0: dir(1, 0, "")}
		for i := 1; i < allInodes; i++ {
			x[i] = none(maxCount - free>>(i-1)&1)
		}
		for prefer := range 2 {
			ino := 0
			for k := range allInodes {
				i := (8*prefer + k) % allInodes
				if i > 0 && x[i].Gen < maxCount {
					ino = i
					break
				}
			}
			op := api.Op{Kind: api.OpCreate, At: at(x, 0), Name: "a"}
			if ino == 0 {
				wantCode(t, x, op, errNoSpace)
				continue
			}
			wantMade(t, x, prefer, op, told(ino, maxCount, kFile), map[int]api.Node{
				0: dir(1, 0, fmt.Sprint("a ", ino)), ino: {Kind: kFile, Gen: maxCount, Links: 1}})
		}
	}
}

// P17.2: which inode is made, where a half is taken, or both are.
func TestHalvesTaken(t *testing.T) {
	high := api.Tree{0: dir(1, 0, "d 8"), 8: dir(1, 0, "a 9 b 10 c 11 d 12 e 13 f 14 g 15")}
	low := api.Tree{0: dir(1, 0, "a 1 b 2 c 3 d 4 e 5 f 6 g 7"), 7: dir(1, 0, "")}
	for i := 1; i <= 6; i++ {
		high[8+i], low[i] = file(1, 1, ""), file(1, 1, "")
	}
	high[15] = file(1, 1, "")
	for prefer := -2; prefer <= 2; prefer++ {
		wantMade(t, high, prefer, api.Op{Kind: api.OpCreate, At: at(high, 0), Name: "a"}, told(1, 1, kFile), map[int]api.Node{
			0: dir(1, 0, "a 1 d 8"), 1: file(1, 1, "")})
		wantMade(t, low, prefer, api.Op{Kind: api.OpMkdir, At: at(low, 7), Name: "a"}, told(8, 1, kDir), map[int]api.Node{
			7: dir(1, 0, "a 8"), 8: dir(1, 7, "")})
	}
	all := high
	all[0] = dir(1, 0, "a 1 b 2 c 3 d 8 e 4 f 5 g 6 h 7")
	for i := 1; i <= 7; i++ {
		all[i] = file(1, 1, "")
	}
	all[7] = dir(1, 0, "")
	wantMayBe(t, "all inodes taken", all)
	for _, kind := range []api.OpKind{api.OpCreate, api.OpMkdir} {
		wantCode(t, all, api.Op{Kind: kind, At: at(all, 7), Name: "a"}, errNoSpace)
		wantCode(t, all, api.Op{Kind: kind, At: at(all, 8), Name: "h"}, errNoSpace)
		wantCode(t, all, api.Op{Kind: kind, At: at(all, 8), Name: "a"}, errExist)
	}
}

// P17.2: when nothing can be made.
func TestNotMade(t *testing.T) {
	w, full := wood(), laden(wood(), 48)
	for _, kind := range []api.OpKind{api.OpCreate, api.OpMkdir} {
		wantCodes(t, kind, []step{
			{"in a file, no name", w, api.Op{At: at(w, 1), Name: "A"}, errNotDir},
			{"in a file", w, api.Op{At: at(w, 1), Name: "a"}, errNotDir},
			{"no name, 8 entries, no inode, no room", laden(worn(), 48), api.Op{At: at(w, 4), Name: "A"}, errName},
			{"a name that is there", w, api.Op{At: at(w, 0), Name: "a"}, errExist},
			{"of a directory that is there", w, api.Op{At: at(w, 0), Name: "e"}, errExist},
			{"that is there, 8 entries, no inode, no room", laden(worn(), 48), api.Op{At: at(w, 4), Name: "k8"}, errExist},
			{"8 entries", w, api.Op{At: at(w, 4), Name: "new"}, errNoSpace},
			{"8 entries, a short name", w, api.Op{At: at(w, 4), Name: "k"}, errNoSpace},
			{"no inode", worn(), api.Op{At: at(w, 3), Name: "new"}, errNoSpace},
			{"no room for the first piece", full, api.Op{At: at(w, 3), Name: "a"}, errNoSpace},
			{"no room for the second piece", full, api.Op{At: at(w, 6), Name: "n8."}, errNoSpace},
			{"no room, no inode", laden(worn(), 48), api.Op{At: at(w, 3), Name: "a"}, errNoSpace},
		})
		n := api.Node{Kind: kFile, Gen: 1, Links: 1}
		if kind == api.OpMkdir {
			n.Kind = kDir
		}
		n.Parent = map[api.Kind]int{kFile: 0, kDir: 6}[n.Kind]
		wantDone(t, full, api.Op{Kind: kind, At: at(w, 6), Name: "n8"}, told(11, 1, n.Kind), map[int]api.Node{
			6: dir(1, 0, "n1 7 n2 7 n3 7 n4 7 n5 7 n6 7 n7 7 n8 11"), 11: n})
		roomy := laden(wood(), 47)
		wantDone(t, roomy, api.Op{Kind: kind, At: at(w, 6), Name: "n8."}, told(11, 1, n.Kind), map[int]api.Node{
			6: dir(1, 0, "n1 7 n2 7 n3 7 n4 7 n5 7 n6 7 n7 7 n8. 11"), 11: n})
		n.Parent = map[api.Kind]int{kFile: 0, kDir: 3}[n.Kind]
		wantDone(t, roomy, api.Op{Kind: kind, At: at(w, 3), Name: "a"}, told(11, 1, n.Kind), map[int]api.Node{
			3: dir(7, 0, "a 11"), 11: n})
	}
}

// P17.2: OpLink, with the codes of it.
func TestLink(t *testing.T) {
	w, full := wood(), laden(wood(), 48)
	wantCodes(t, api.OpLink, []step{
		{"a directory, To not good", w, api.Op{At: at(w, 3), To: api.Handle{Ino: 16}, Toname: "A"}, errIsDir},
		{"a directory", w, api.Op{At: at(w, 0), To: at(w, 3), Toname: "a"}, errIsDir},
		{"To not good, Toname no name", w, api.Op{At: at(w, 5), To: at(w, 13), Toname: "A"}, errHandle},
		{"To a file, Toname no name", w, api.Op{At: at(w, 5), To: at(w, 1), Toname: "A"}, errNotDir},
		{"To itself", w, api.Op{At: at(w, 1), To: at(w, 1), Toname: "a"}, errNotDir},
		{"no name, 9 links, 8 entries", w, api.Op{At: at(w, 5), To: at(w, 4), Toname: "A"}, errName},
		{"a name that is there, 9 links, 8 entries", w, api.Op{At: at(w, 5), To: at(w, 4), Toname: "k3"}, errExist},
		{"a directory's name that is there", w, api.Op{At: at(w, 1), To: at(w, 0), Toname: "d"}, errExist},
		{"9 links, 8 entries", w, api.Op{At: at(w, 5), To: at(w, 4), Toname: "new"}, errLinks},
		{"9 links, no room", full, api.Op{At: at(w, 5), To: at(w, 3), Toname: "new"}, errLinks},
		{"9 links", w, api.Op{At: at(w, 5), To: at(w, 3), Toname: "new"}, errLinks},
		{"8 entries", w, api.Op{At: at(w, 1), To: at(w, 4), Toname: "new"}, errNoSpace},
		{"no room for the first piece", full, api.Op{At: at(w, 1), To: at(w, 3), Toname: "a"}, errNoSpace},
		{"no room for the second piece", full, api.Op{At: at(w, 1), To: at(w, 6), Toname: "new"}, errNoSpace},
	})
	wantDone(t, w, api.Op{Kind: api.OpLink, At: at(w, 1), Name: "A", To: at(w, 3), Toname: "same"}, done(), map[int]api.Node{
		1: linked(w[1], 2), 3: dir(7, 0, "same 1")})
	wantDone(t, worn(), api.Op{Kind: api.OpLink, At: at(w, 9), To: at(w, 0), Toname: "c"}, done(), map[int]api.Node{
		9: linked(w[9], 2), 0: dir(1, 0, "a 1 b 5 c 9 d 2 e 3 f 4 s 6")})
	wantDone(t, full, api.Op{Kind: api.OpLink, At: at(w, 1), To: at(w, 6), Toname: "n0"}, done(), map[int]api.Node{
		1: linked(full[1], 2), 6: dir(1, 0, "n0 1 n1 7 n2 7 n3 7 n4 7 n5 7 n6 7 n7 7")})
	roomy := laden(wood(), 47)
	wantDone(t, roomy, api.Op{Kind: api.OpLink, At: at(w, 7), To: at(w, 6), Toname: "n70"}, done(), map[int]api.Node{
		7: linked(roomy[7], 8), 6: dir(1, 0, "n1 7 n2 7 n3 7 n4 7 n5 7 n6 7 n7 7 n70 7")})
}

// linked is a node with so many links.
func linked(n api.Node, links int) api.Node {
	n.Links = links
	return n
}

// P17.2: links up to 9, and unlinked down to the last one: the file is None then, with its Gen.
func TestLinksUpAndDown(t *testing.T) {
	x := api.Tree{0: dir(1, 0, "d 1 f 2"), 1: dir(1, 0, ""), 2: file(6, 1, mixed(100, 1)+zeros(100))}
	was := x[2]
	list := ""
	for links := 2; links <= 9; links++ {
		list += fmt.Sprint(" l", links, " 2")
		x = wantDone(t, x, api.Op{Kind: api.OpLink, At: at(x, 2), To: at(x, 1), Toname: fmt.Sprint("l", links)}, done(), map[int]api.Node{
			1: dir(1, 0, list), 2: linked(was, links)})
		wantTold(t, x, api.Op{Kind: api.OpStat, At: at(x, 2)}, api.Reply{Kind: kFile, Links: links, Size: 200})
	}
	wantCode(t, x, api.Op{Kind: api.OpLink, At: at(x, 2), To: at(x, 0), Toname: "more"}, errLinks)
	for links := 9; links >= 2; links-- {
		list = list[:len(list)-5]
		x = wantDone(t, x, api.Op{Kind: api.OpUnlink, At: at(x, 1), Name: fmt.Sprint("l", links)}, done(), map[int]api.Node{
			1: dir(1, 0, list), 2: linked(was, links-1)})
	}
	wantDone(t, x, api.Op{Kind: api.OpUnlink, At: at(x, 0), Name: "f"}, done(), map[int]api.Node{
		0: dir(1, 0, "d 1"), 2: none(6)})
}

// P17.2: OpUnlink, with the codes of it.
func TestUnlink(t *testing.T) {
	w := wood()
	wantCodes(t, api.OpUnlink, []step{
		{"a file, no name", w, api.Op{At: at(w, 1), Name: "A"}, errNotDir},
		{"no name", w, api.Op{At: at(w, 0), Name: "A"}, errName},
		{"no entry", w, api.Op{At: at(w, 0), Name: "x"}, errNoEnt},
		{"no entries", w, api.Op{At: at(w, 3), Name: "x"}, errNoEnt},
		{"a directory", w, api.Op{At: at(w, 0), Name: "e"}, errIsDir},
		{"a directory with entries", w, api.Op{At: at(w, 2), Name: "sub"}, errIsDir},
	})
	wantDone(t, w, api.Op{Kind: api.OpUnlink, At: at(w, 0), Name: "a"}, done(), map[int]api.Node{
		0: dir(1, 0, "b 5 d 2 e 3 f 4 s 6"), 1: none(3)})
	wantDone(t, w, api.Op{Kind: api.OpUnlink, At: at(w, 2), Name: "x"}, done(), map[int]api.Node{
		2: dir(2, 0, "sub 8"), 9: none(1)})
	wantDone(t, w, api.Op{Kind: api.OpUnlink, At: at(w, 0), Name: "b"}, done(), map[int]api.Node{
		0: dir(1, 0, "a 1 d 2 e 3 f 4 s 6"), 5: linked(w[5], 8)})
	wantDone(t, w, api.Op{Kind: api.OpUnlink, At: at(w, 4), Name: "k4"}, done(), map[int]api.Node{
		4: dir(1, 0, "k1 5 k2 5 k3 5 k5 5 k6 5 k7 5 k8 5"), 5: linked(w[5], 8)})
	full := laden(worn(), 48)
	wantDone(t, full, api.Op{Kind: api.OpUnlink, At: at(w, 0), Name: "a"}, done(), map[int]api.Node{
		0: dir(1, 0, "b 5 d 2 e 3 f 4 s 6"), 1: none(3)})
}

// P17.2: OpRmdir, with the codes of it.
func TestRmdir(t *testing.T) {
	w := wood()
	wantCodes(t, api.OpRmdir, []step{
		{"in a file, no name", w, api.Op{At: at(w, 1), Name: "A"}, errNotDir},
		{"no name", w, api.Op{At: at(w, 0), Name: "A"}, errName},
		{"no entry", w, api.Op{At: at(w, 0), Name: "sub"}, errNoEnt},
		{"no entries", w, api.Op{At: at(w, 3), Name: "e"}, errNoEnt},
		{"a file", w, api.Op{At: at(w, 0), Name: "a"}, errNotDir},
		{"a file with 9 links", w, api.Op{At: at(w, 4), Name: "k1"}, errNotDir},
		{"8 entries", w, api.Op{At: at(w, 0), Name: "f"}, errNotEmpty},
		{"an entry", w, api.Op{At: at(w, 2), Name: "sub"}, errNotEmpty},
	})
	wantDone(t, w, api.Op{Kind: api.OpRmdir, At: at(w, 0), Name: "e"}, done(), map[int]api.Node{
		0: dir(1, 0, "a 1 b 5 d 2 f 4 s 6"), 3: none(7)})
	x := wantDone(t, laden(worn(), 48), api.Op{Kind: api.OpRmdir, At: at(w, 8), Name: "deep"}, done(), map[int]api.Node{
		8: dir(2, 2, ""), 10: none(maxCount)})
	wantDone(t, x, api.Op{Kind: api.OpRmdir, At: at(w, 2), Name: "sub"}, done(), map[int]api.Node{
		2: dir(2, 0, "x 9"), 8: none(2)})
}

// statOf is what OpStat tells of a node.
func statOf(t api.Tree, i int) api.Reply {
	sizes := map[int]int{0: 18, 1: 100, 2: 8, 3: 0, 4: 32, 5: 131, 6: 28, 7: 0, 8: 6, 9: 1, 10: 0}
	return api.Reply{Kind: t[i].Kind, Links: t[i].Links, Size: sizes[i]}
}

// P17.2: OpStat, OpReaddir and OpSync.
func TestTell(t *testing.T) {
	w := wood()
	names := map[int][]string{0: {"a", "b", "d", "e", "f", "s"}, 2: {"sub", "x"}, 3: nil, 4: {"k1", "k2", "k3", "k4", "k5", "k6", "k7", "k8"}, 6: {"n1", "n2", "n3", "n4", "n5", "n6", "n7"}, 8: {"deep"}, 10: nil}
	for i := range 11 {
		wantTold(t, w, api.Op{Kind: api.OpStat, At: at(w, i), Name: "A", Off: -1, Len: -1}, statOf(w, i))
		if w[i].Kind == kDir {
			wantTold(t, w, api.Op{Kind: api.OpReaddir, At: at(w, i), Name: "A", Off: -1}, api.Reply{Names: names[i]})
		} else {
			wantCode(t, w, api.Op{Kind: api.OpReaddir, At: at(w, i)}, errNotDir)
		}
	}
	for _, x := range []api.Tree{w, worn(), tree.New(), laden(w, 48)} {
		wantTold(t, x, api.Op{Kind: api.OpSync}, done())
		wantTold(t, x, api.Op{Kind: api.OpSync, At: at(x, 0), Name: "a", Off: 3, Len: 5, Data: "x"}, done())
	}
	x := put(w, 2, dir(2, 0, "longer 8 x. 9"))
	wantTold(t, x, api.Op{Kind: api.OpStat, At: at(x, 2)}, api.Reply{Kind: kDir, Links: 1, Size: 12})
	wantTold(t, x, api.Op{Kind: api.OpReaddir, At: at(x, 2)}, api.Reply{Names: []string{"longer", "x."}})
}

// P17.1 to P17.4: the chapter's example.
func TestExample(t *testing.T) {
	x := tree.New()
	root := at(x, 0)
	a := wantDone(t, x, api.Op{Kind: api.OpCreate, At: root, Name: "a"}, told(1, 1, kFile), map[int]api.Node{
		0: dir(1, 0, "a 1"), 1: file(1, 1, "")})
	wantMade(t, x, 1, api.Op{Kind: api.OpCreate, At: root, Name: "a"}, told(8, 1, kFile), map[int]api.Node{
		0: dir(1, 0, "a 8"), 8: file(1, 1, "")})
	h := at(a, 1)
	a = wantDone(t, a, api.Op{Kind: api.OpWrite, At: h, Off: 40, Data: "xy"}, api.Reply{Size: 42}, map[int]api.Node{
		1: {Kind: kFile, Gen: 1, Links: 1, Data: zeros(40) + "xy", Chunks: [12]bool{1: true}}})
	if n := tree.Used(a); n != 2 {
		t.Errorf("Used: %d; want 2", n)
	}
	wantTold(t, a, api.Op{Kind: api.OpRead, At: h, Off: 38, Len: 9}, api.Reply{Data: "\x00\x00xy"})
	a = wantDone(t, a, api.Op{Kind: api.OpUnlink, At: root, Name: "a"}, done(), map[int]api.Node{
		0: dir(1, 0, ""), 1: none(1)})
	a = wantDone(t, a, api.Op{Kind: api.OpCreate, At: root, Name: "b"}, told(1, 2, kFile), map[int]api.Node{
		0: dir(1, 0, "b 1"), 1: file(2, 1, "")})
	wantCode(t, a, api.Op{Kind: api.OpStat, At: h}, errHandle)
}
