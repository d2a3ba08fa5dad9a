package tree_test

import (
	"fmt"
	"math/rand"
	"slices"
	"strings"
	"testing"

	"lagoon/api"
	"lagoon/tree"
)

// P17.1: the new tree.
func TestNew(t *testing.T) {
	want := api.Tree{0: {Kind: kDir, Gen: 1, Links: 1}}
	if got := tree.New(); !sameTree(got, want) {
		t.Errorf("New:%s", shown(got))
	}
	wantMayBe(t, "the new tree", tree.New())
	if n := tree.Used(tree.New()); n != 0 {
		t.Errorf("Used of the new tree: %d", n)
	}
}

// P17.1: trees that may be, at the edges.
func TestMayBe(t *testing.T) {
	w := wood()
	for what, x := range map[string]api.Tree{
		"something of all":        w,
		"with all None worn":      worn(),
		"inode 0 of the last Gen": put(w, 0, dir(maxCount, 0, "a 1 b 5 d 2 e 3 f 4 s 6")),
		"a file of Gen 0":         put(w, 1, file(0, 1, "x")),
		"a directory of Gen 0":    put(w, 3, dir(0, 0, "")),
		"a None of Gen 0":         put(w, 13, none(0)),
		"a None of the last Gen":  put(w, 13, none(maxCount)),
		"no bytes":                put(w, 1, file(3, 1, "")),
		"384 bytes":               put(w, 1, file(3, 1, mixed(384, 1))),
		"384 zeros, no piece":     put(w, 1, file(3, 1, zeros(384))),
		"384 zeros, all pieces":   put(w, 1, file(3, 1, zeros(384), 0, 1, 2, 3, 4, 5, 6, 7, 8, 9, 10, 11)),
		"the last piece alone":    put(w, 1, file(3, 1, zeros(384), 11)),
		"a piece of a byte":       put(w, 1, file(3, 1, zeros(33), 1)),
		"a last byte of a piece":  put(w, 1, file(3, 1, zeros(63)+"\xff"+zeros(1))),
		"a name of 6":             put(w, 0, dir(1, 0, "a.0z9. 1 b 5 d 2 e 3 f 4 s 6")),
		"names of a byte":         put(w, 0, dir(1, 0, ". 1 0 5 9 2 a 3 s 4 z 6")),
		"47 blocks":               laden(w, 47),
		"48 blocks":               laden(w, 48),
	} {
		wantMayBe(t, what, x)
	}
}

// spoil is a tree of which a node has been changed.
func spoil(t api.Tree, i int, change func(*api.Node)) api.Tree {
	t = copyOf(t)
	change(&t[i])
	return t
}

// P17.1, P17.2: inode 0 that is no Dir, has no Gen, or a Parent.
func TestRootMayNotBe(t *testing.T) {
	for what, x := range map[string]api.Tree{
		"the zero tree":                    {},
		"a file":                           {0: file(1, 1, "")},
		"a file, without a link":           {0: {Kind: kFile, Gen: 1}},
		"a None with a Gen":                {0: none(1)},
		"Gen 0":                            {0: dir(0, 0, "")},
		"Gen -1":                           {0: dir(-1, 0, "")},
		"Gen 2^40 + 1":                     {0: dir(maxCount+1, 0, "")},
		"Parent 1, that there isn't":       {0: dir(1, 1, "")},
		"Parent 1, below it":               {0: dir(1, 1, "a 1"), 1: dir(1, 0, "")},
		"Parent -1":                        {0: dir(1, -1, "")},
		"led to by itself":                 {0: dir(1, 0, "a 0")},
		"led to by itself, 2 links":        {0: {Kind: kDir, Gen: 1, Links: 2, Entries: []api.Entry{{Name: "a"}}}},
		"led to by another":                {0: dir(1, 0, "a 1"), 1: dir(1, 0, "a 0")},
		"led to by another, its Parent":    {0: dir(1, 1, "a 1"), 1: dir(1, 0, "a 0")},
		"no link":                          {0: {Kind: kDir, Gen: 1}},
		"2 links":                          {0: {Kind: kDir, Gen: 1, Links: 2}},
		"a byte":                           {0: {Kind: kDir, Gen: 1, Links: 1, Data: "x"}},
		"a piece":                          {0: {Kind: kDir, Gen: 1, Links: 1, Chunks: [12]bool{5: true}}},
		"another one is all right instead": {1: dir(1, 0, "")},
	} {
		wantMayNotBe(t, "inode 0: "+what, x)
	}
	for what, change := range map[string]func(*api.Node){
		"a file":   func(n *api.Node) { n.Kind = kFile },
		"None":     func(n *api.Node) { n.Kind = kNone },
		"kind 3":   func(n *api.Node) { n.Kind = 3 },
		"Gen 0":    func(n *api.Node) { n.Gen = 0 },
		"Parent 2": func(n *api.Node) { n.Parent = 2 },
		"Parent 3": func(n *api.Node) { n.Parent = 3 },
		"no entry": func(n *api.Node) { n.Entries = nil },
	} {
		wantMayNotBe(t, "inode 0: "+what, spoil(wood(), 0, change))
	}
}

// P17.1, P17.2: a node of any kind that breaks what holds of all.
func TestNodeMayNotBe(t *testing.T) {
	for what, change := range map[string]func(*api.Node){
		"Gen -1":          func(n *api.Node) { n.Gen = -1 },
		"Gen 2^40 + 1":    func(n *api.Node) { n.Gen = maxCount + 1 },
		"Gen far off":     func(n *api.Node) { n.Gen += 1 << 41 },
		"Kind 3":          func(n *api.Node) { n.Kind = 3 },
		"Kind -1":         func(n *api.Node) { n.Kind = -1 },
		"Kind far off":    func(n *api.Node) { n.Kind += 1 << 32 },
		"a link less":     func(n *api.Node) { n.Links-- },
		"a link more":     func(n *api.Node) { n.Links++ },
		"256 links more":  func(n *api.Node) { n.Links += 256 },
		"Links far off":   func(n *api.Node) { n.Links += 1 << 32 },
		"Parent 1":        func(n *api.Node) { n.Parent = 1 },
		"Parent 3":        func(n *api.Node) { n.Parent = 3 },
		"Parent 15":       func(n *api.Node) { n.Parent = 15 },
		"Parent 16":       func(n *api.Node) { n.Parent = 16 },
		"Parent -1":       func(n *api.Node) { n.Parent = -1 },
		"Parent 256 more": func(n *api.Node) { n.Parent += 256 },
		"Parent far off":  func(n *api.Node) { n.Parent += 1 << 32 },
	} {
		for i := 1; i < allInodes; i++ {
			wantMayNotBe(t, fmt.Sprint("inode ", i, ": ", what), spoil(wood(), i, change))
		}
	}
	for _, far := range farOff() {
		for i := range allInodes {
			wantMayNotBe(t, fmt.Sprint("inode ", i, ": Links ", far), spoil(wood(), i, func(n *api.Node) { n.Links = far }))
			wantMayNotBe(t, fmt.Sprint("inode ", i, ": Parent ", far), spoil(wood(), i, func(n *api.Node) { n.Parent = far }))
			if far < 0 || far > maxCount {
				wantMayNotBe(t, fmt.Sprint("inode ", i, ": Gen ", far), spoil(wood(), i, func(n *api.Node) { n.Gen = far }))
			}
		}
	}
}

// P17.1, P17.2: a None that has anything left.
func TestNoneMayNotBe(t *testing.T) {
	for i := 11; i < allInodes; i++ {
		for what, change := range map[string]func(*api.Node){
			"a link":          func(n *api.Node) { n.Links = 1 },
			"a Parent":        func(n *api.Node) { n.Parent = 2 },
			"a byte":          func(n *api.Node) { n.Data = "x" },
			"a zero":          func(n *api.Node) { n.Data = "\x00" },
			"zeros":           func(n *api.Node) { n.Data = zeros(384) },
			"an entry":        func(n *api.Node) { n.Entries = []api.Entry{{Name: "q", Ino: 1}} },
			"an empty entry":  func(n *api.Node) { n.Entries = []api.Entry{{}} },
			"an entry to one": func(n *api.Node) { n.Entries = []api.Entry{{Name: "q", Ino: 13}} },
		} {
			wantMayNotBe(t, fmt.Sprint("None ", i, " with ", what), spoil(wood(), i, change))
		}
		for k := range allPieces {
			wantMayNotBe(t, fmt.Sprint("None ", i, " with piece ", k), spoil(wood(), i, func(n *api.Node) { n.Chunks[k] = true }))
		}
		left := spoil(wood(), i, func(n *api.Node) { n.Entries = []api.Entry{{Name: "q", Ino: 1}} })
		left[1].Links = 2
		wantMayNotBe(t, fmt.Sprint("None ", i, " whose entry is counted"), left)
	}
}

// P17.1, P17.2: the links of a file: 1 to 9, and as many as lead to it.
func TestFileLinks(t *testing.T) {
	for entries := range 17 {
		list := ""
		for k := range min(entries, 8) {
			list += fmt.Sprint(" a", k, " 2")
		}
		more := ""
		for k := 8; k < entries; k++ {
			more += fmt.Sprint(" b", k+10, " 2")
		}
		for links := -1; links <= 18; links++ {
			x := api.Tree{0: dir(1, 0, "d 1"), 1: dir(1, 0, list), 2: file(1, links, "x")}
			if entries > 8 {
				x[0], x[3] = dir(1, 0, "d 1 e 3"), dir(1, 0, more)
			}
			what := fmt.Sprint(entries, " entries, ", links, " links")
			if links == entries && 1 <= links && links <= 9 {
				wantMayBe(t, what, x)
			} else {
				wantMayNotBe(t, what, x)
			}
		}
	}
}

// P17.1, P17.2: a file's Parent, entries, bytes and pieces.
func TestFileMayNotBe(t *testing.T) {
	w := wood()
	for what, n := range map[string]api.Node{
		"385 bytes, all pieces":   {Kind: kFile, Links: 1, Data: mixed(385, 1), Chunks: [12]bool{true, true, true, true, true, true, true, true, true, true, true, true}},
		"385 zeros, no piece":     {Kind: kFile, Links: 1, Data: zeros(385)},
		"very many zeros":         {Kind: kFile, Links: 1, Data: zeros(1 << 20)},
		"very many bytes":         {Kind: kFile, Links: 1, Data: strings.Repeat("x", 1<<20)},
		"an entry":                {Kind: kFile, Links: 1, Entries: []api.Entry{{Name: "q", Ino: 9}}},
		"an entry to a None":      {Kind: kFile, Links: 1, Entries: []api.Entry{{Name: "q", Ino: 13}}},
		"an entry to inode 16":    {Kind: kFile, Links: 1, Entries: []api.Entry{{Name: "q", Ino: 16}}},
		"a Parent":                {Kind: kFile, Links: 1, Parent: 2},
		"no bytes, piece 0":       {Kind: kFile, Links: 1, Chunks: [12]bool{true}},
		"no bytes, piece 11":      {Kind: kFile, Links: 1, Chunks: [12]bool{11: true}},
		"383 bytes but piece 11":  {Kind: kFile, Links: 1, Data: zeros(383) + "x"},
		"a piece too many":        file(1, 1, zeros(352), 11),
		"a byte, no piece":        {Kind: kFile, Links: 1, Data: "x"},
		"a byte in another piece": {Kind: kFile, Links: 1, Data: zeros(40) + "x", Chunks: [12]bool{true}},
	} {
		wantMayNotBe(t, "a file with "+what, put(w, 1, n))
	}
	counted := put(w, 1, api.Node{Kind: kFile, Links: 1, Entries: []api.Entry{{Name: "q", Ino: 9}}})
	counted[9].Links = 2
	wantMayNotBe(t, "a file whose entry is counted", counted)
}

// P17.1, P17.2: for each length and each piece, whether that may be there.
func TestPiecesThere(t *testing.T) {
	for k := range allPieces {
		for _, size := range []int{0, 1, 31, 32, 33, 32*k - 1, 32 * k, 32*k + 1, 32*k + 31, 32*k + 32, 32*k + 33, 383, 384} {
			if size < 0 || size > maxSize {
				continue
			}
			x := put(wood(), 1, file(3, 1, zeros(size), k))
			what := fmt.Sprint(size, " zeros, piece ", k)
			if 32*k < size {
				wantMayBe(t, what, x)
			} else {
				wantMayNotBe(t, what, x)
			}
		}
		for place := range maxSize {
			data := zeros(place) + "\x01" + zeros(maxSize-1-place)
			n := api.Node{Kind: kFile, Gen: 3, Links: 1, Data: data}
			n.Chunks[k] = true
			if what := fmt.Sprint("byte ", place, ", piece ", k); place/32 == k {
				wantMayBe(t, what, put(wood(), 1, n))
			} else if place%8 == 0 || place%32 == 31 {
				wantMayNotBe(t, what, put(wood(), 1, n))
			}
		}
	}
}

// P17.1, P17.2: the links, bytes and pieces of a directory.
func TestDirMayNotBe(t *testing.T) {
	for _, i := range []int{2, 3, 4, 10} {
		for what, change := range map[string]func(*api.Node){
			"no link":  func(n *api.Node) { n.Links = 0 },
			"2 links":  func(n *api.Node) { n.Links = 2 },
			"9 links":  func(n *api.Node) { n.Links = 9 },
			"a byte":   func(n *api.Node) { n.Data = "x" },
			"a zero":   func(n *api.Node) { n.Data = "\x00" },
			"its size": func(n *api.Node) { n.Data = zeros(32); n.Chunks[0] = true },
			"None":     func(n *api.Node) { n.Kind = kNone },
			"kind 3":   func(n *api.Node) { n.Kind = 3 },
		} {
			wantMayNotBe(t, fmt.Sprint("directory ", i, ": ", what), spoil(wood(), i, change))
		}
		asFile := spoil(wood(), i, func(n *api.Node) { n.Kind = kFile })
		if what := fmt.Sprint("directory ", i, " taken for a file"); i == 3 {
			wantMayBe(t, what, asFile) // it is empty, and its Parent is 0
		} else {
			wantMayNotBe(t, what, asFile)
		}
		for k := range allPieces {
			wantMayNotBe(t, fmt.Sprint("directory ", i, " with piece ", k), spoil(wood(), i, func(n *api.Node) { n.Chunks[k] = true }))
		}
	}
}

// P17.1, P17.2: entries that may not be, or lead where none may.
func TestEntriesMayNotBe(t *testing.T) {
	files := api.Tree{0: dir(1, 0, "d 1 f 2"), 1: dir(1, 0, ""), 2: file(1, 1, ""), 4: none(1)}
	lists := map[string]string{
		"fall":                "b 2 a 2",
		"are alike":           "a 2 a 2",
		"are alike, not next": "a 2 b 2 a 2",
		"the last ones fall":  "a 2 b 2 d 2 c 2",
		"are 9":               "a 2 b 2 c 2 d 2 e 2 f 2 g 2 h 2 i 2",
		"lead to a None":      "a 3",
		"lead to a None of 1": "a 4",
		"lead to inode 0":     "a 0",
		"lead to itself":      "a 1",
		"lead to inode 16":    "a 16",
		"lead to inode 18":    "a 18",
		"lead to inode -1":    "a -1",
		"lead to inode 258":   "a 258",
		"one is in capitals":  "A 2",
	}
	for _, n := range farOff() {
		lists[fmt.Sprint("lead to inode ", n)] = fmt.Sprint("a ", n)
	}
	for what, list := range lists {
		x := put(files, 1, dir(1, 0, list))
		x[2].Links = 1 + strings.Count(list, " 2")
		wantMayNotBe(t, "entries "+what, x)
		x[2].Links = 1
		wantMayNotBe(t, "entries "+what+", not counted", x)
	}
	for _, name := range wrongNames() {
		x := copyOf(files)
		x[1].Entries = []api.Entry{{Name: name, Ino: 2}}
		x[2].Links = 2
		wantMayNotBe(t, "a name that is none", x)
	}
	many := copyOf(files)
	many[1].Entries = slices.Repeat([]api.Entry{{Name: "a", Ino: 2}}, 1<<16)
	wantMayNotBe(t, "very many entries", many)
	for n := range 9 {
		x := copyOf(files)
		for k := range n {
			x[1].Entries = append(x[1].Entries, api.Entry{Name: string([]byte{byte('a' + k)}), Ino: 2})
		}
		x[2].Links = 1 + n
		wantMayBe(t, fmt.Sprint(n, " entries"), x)
	}
}

// P17.1, P17.2: directories that aren't led to as they ought to be.
func TestDirsMayNotStand(t *testing.T) {
	for what, x := range map[string]api.Tree{
		"nothing leads to it":                {0: dir(1, 0, ""), 1: dir(1, 0, "")},
		"nothing leads to it, it to a file":  {0: dir(1, 0, ""), 1: dir(1, 0, "a 2"), 2: file(1, 1, "")},
		"two entries of one lead to it":      {0: dir(1, 0, "a 1 b 1"), 1: dir(1, 0, "")},
		"two entries, two links":             {0: dir(1, 0, "a 1 b 1"), 1: {Kind: kDir, Gen: 1, Links: 2}},
		"two directories lead to it":         {0: dir(1, 0, "a 1 b 2"), 1: dir(1, 0, "c 2"), 2: dir(1, 0, "")},
		"two lead to it, the other's Parent": {0: dir(1, 0, "a 1 b 2"), 1: dir(1, 0, "c 2"), 2: dir(1, 1, "")},
		"two lead to it, two links":          {0: dir(1, 0, "a 1 b 2"), 1: dir(1, 0, "c 2"), 2: {Kind: kDir, Gen: 1, Links: 2, Parent: 1}},
		"its Parent is another":              {0: dir(1, 0, "a 1 b 2"), 1: dir(1, 0, ""), 2: dir(1, 1, "")},
		"its Parent is inode 0":              {0: dir(1, 0, "a 1"), 1: dir(1, 0, "b 2"), 2: dir(1, 0, "")},
		"its Parent is below it":             {0: dir(1, 0, "a 1"), 1: dir(1, 2, "b 2"), 2: dir(1, 1, "")},
		"its Parent is itself":               {0: dir(1, 0, "a 1"), 1: dir(1, 1, "")},
		"its Parent is a file":               {0: dir(1, 0, "a 1 b 2"), 1: dir(1, 2, ""), 2: file(1, 1, "")},
		"its Parent is a None":               {0: dir(1, 0, "a 1"), 1: dir(1, 5, "")},
		"its Parents change places":          {0: dir(1, 0, "a 1 b 2"), 1: dir(1, 0, "c 3"), 2: dir(1, 0, "d 4"), 3: dir(1, 2, ""), 4: dir(1, 1, "")},
		"it leads to itself":                 {0: dir(1, 0, ""), 1: dir(1, 1, "a 1")},
		"two go round":                       {0: dir(1, 0, ""), 1: dir(1, 2, "a 2"), 2: dir(1, 1, "b 1")},
		"three go round":                     {0: dir(1, 0, "x 4"), 1: dir(1, 3, "a 2"), 2: dir(1, 1, "b 3"), 3: dir(1, 2, "c 1"), 4: dir(1, 0, "")},
		"two go round, with a file":          {0: dir(1, 0, ""), 1: dir(1, 2, "a 2 f 3"), 2: dir(1, 1, "b 1"), 3: file(1, 1, "")},
		"inode 0 goes round with it":         {0: dir(1, 1, "a 1"), 1: dir(1, 0, "b 0")},
	} {
		wantMayNotBe(t, what, x)
	}
}

// P17.1: directories below each other, as many as there are inodes; and all of them but inode 0 going round.
func TestDirsBelowEachOther(t *testing.T) {
	for _, order := range [][]int{{0, 1, 2, 3, 4, 5, 6, 7, 8, 9, 10, 11, 12, 13, 14, 15}, {0, 15, 14, 13, 12, 11, 10, 9, 8, 7, 6, 5, 4, 3, 2, 1}, {0, 8, 1, 9, 2, 10, 3, 11, 4, 12, 5, 13, 6, 14, 7, 15}} {
		var x api.Tree
		for n, i := range order {
			x[i] = dir(1, order[max(n-1, 0)], "")
			if n > 0 {
				x[order[n-1]].Entries = []api.Entry{{Name: "in", Ino: i}}
			}
			wantMayBe(t, fmt.Sprint(n+1, " below each other"), x)
		}
		round := copyOf(x)
		round[0].Entries = nil
		round[order[15]].Entries = []api.Entry{{Name: "in", Ino: order[1]}}
		round[order[1]].Parent = order[15]
		wantMayNotBe(t, "15 going round", round)
	}
}

// P17.1: Used, of directories and files of all sizes.
func TestUsed(t *testing.T) {
	wantUsed := func(what string, want int, x api.Tree) {
		t.Helper()
		if got := tree.Used(x); got != want {
			t.Errorf("Used of %s: %d; want %d", what, got, want)
		}
	}
	for list, want := range map[string]int{
		"":                              0,
		"a 1":                           1,
		"aaaaaa 1 b 1":                  1,
		"a1 1 a2 1 a3 1 a4 1 a5 1 a6 1": 1,
		"a1 1 a2 1 a3 1 a4 1 a5 1 a6 1 a7 1 a8 1":                                                 1,
		"a1 1 a2 1 a3 1 a4 1 a5 1 a6 1 a7 1 a08 1":                                                2,
		"aaaaa1 1 aaaaa2 1 aaaaa3 1 aaaaa4 1":                                                     1,
		"aaaaa1 1 aaaaa2 1 aaaaa3 1 aaaa4 1":                                                      1,
		"aaaaa1 1 aaaaa2 1 aaaaa3 1 aaaaa4 1 b 1":                                                 2,
		"aaaaa1 1 aaaaa2 1 aaaaa3 1 aaaaa4 1 aaaaa5 1 aaaaa6 1 aaaaa7 1 aaaaa8 1":                 2,
		"aaaaa1 1 aaaaa2 1 aaaaa3 1 aaaaa4 1 aaaaa5 1 aaaaa6 1 aaaaa7 1 aaaaa8 1 b 1":             3,
		"aaaaa1 1 aaaaa2 1 aaaaa3 1 aaaaa4 1 aaaaa5 1 aaaaa6 1 aaaaa7 1 aaaaa8 1 aaaaaaaaaaaaa 1": 3,
		"b 1 a 16 a -1":                           1,
		strings.Repeat("a", 30) + " 1":            1,
		strings.Repeat("a", 31) + " 1":            2,
		strings.Repeat("a", 62) + " 0":            2,
		strings.Repeat("a", 63) + " 0":            3,
		strings.Repeat(" a 99", 32*1000):          3000,
		strings.Repeat(" a 99", 32*1000) + " b 1": 3001,
	} {
		wantUsed("a directory of "+list[:min(len(list), 99)], want, api.Tree{0: dir(1, 0, list)})
		wantUsed("a directory below, of "+list[:min(len(list), 99)], want+1, api.Tree{0: dir(1, 0, "d 15"), 15: dir(1, 99, list)})
	}
	for bits := range 1 << allPieces {
		want := 0
		n := api.Node{Kind: kFile, Gen: 1, Links: 1, Data: zeros(bits % 500)}
		for k := range allPieces {
			if bits>>k&1 == 1 {
				n.Chunks[k] = true
				want++
			}
		}
		if bits >= 1<<4 {
			want++
		}
		wantUsed(fmt.Sprintf("a file of the pieces %b", bits), want+1, api.Tree{0: dir(1, 0, "f 5"), 5: n})
	}
	all := [12]bool{true, true, true, true, true, true, true, true, true, true, true, true}
	x := wood()
	want := 0
	for i := range x {
		x[i] = api.Node{Kind: kFile, Chunks: all}
		want += 13
		wantUsed("files with all pieces", want, api.Tree(append(x[:i+1:i+1], make([]api.Node, 15-i)...)))
	}
	wantUsed("something of all", 11, wood())
}

// P17.1, P17.2: 48 blocks, and one more: of files, of a directory.
func TestBlocksMayNotBe(t *testing.T) {
	for blocks := 44; blocks <= 48; blocks++ {
		wantMayBe(t, fmt.Sprint(blocks, " blocks"), laden(wood(), blocks))
	}
	for blocks := 49; blocks <= 52; blocks++ {
		wantMayNotBe(t, fmt.Sprint(blocks, " blocks"), laden(wood(), blocks))
	}
	x := laden(wood(), 48)
	x[3] = dir(7, 0, "q 1")
	x[1].Links = 2
	wantMayNotBe(t, "one more by an entry", x)
	y := laden(wood(), 48)
	y[4] = dir(1, 0, "k1 5 k2 5 k3 5 k4 5 k5 5 k6 5 k7 5 k8.. 5")
	wantMayNotBe(t, "one more by a longer name", y)
}

// P17.1, R1: trees at random, most of which may not be.
func TestValidAtRandom(t *testing.T) {
	rnd := rand.New(rand.NewSource(1))
	valid := 0
	for range 10000 {
		x := randomTree(rnd)
		for range rnd.Intn(3) {
			x = spoilt(rnd, x)
		}
		got, want := tree.Valid(x), plainValid(x)
		if got != want {
			t.Fatalf("Valid is %v, the plain one %v, of%s", got, want, shown(x))
		}
		if got {
			valid++
			wantMayBe(t, "at random", x)
		} else if rnd.Intn(10) == 0 {
			wantMayNotBe(t, "at random", x)
		}
	}
	if !within(valid, 2000, 8000) {
		t.Errorf("%d trees of 10000 may be", valid)
	}
}

// R1: any numbers and lists at all: each call ends.
func TestAnyTree(t *testing.T) {
	rnd := rand.New(rand.NewSource(2))
	any := append(farOff(), 0, 0, 0, 0, 1, 2, 3, 4, 5, 15, 16)
	for range 5000 {
		var x api.Tree
		for i := range x {
			n := api.Node{Kind: api.Kind(rnd.Intn(4)), Gen: oneOf(rnd, any...), Links: oneOf(rnd, any...), Parent: oneOf(rnd, any...), Data: zeros(rnd.Intn(500))}
			for k := range n.Chunks {
				n.Chunks[k] = rnd.Intn(3) == 0
			}
			for range rnd.Intn(5) {
				n.Entries = append(n.Entries, api.Entry{Name: oneOf(rnd, "a", "b", "", "A"), Ino: oneOf(rnd, any...)})
			}
			x[i] = n
		}
		x[0].Kind = kDir
		tree.Used(x)
		if tree.Valid(x) {
			t.Errorf("Valid of%s", shown(x))
		}
		wantCode(t, x, api.Op{Kind: oneOf(rnd, kinds()...), At: api.Handle{Gen: x[0].Gen}, Name: "a"}, errCorrupt)
	}
}
