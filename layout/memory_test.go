package layout_test

import (
	"fmt"
	"math/rand"
	"slices"
	"strings"
	"sync"
	"testing"
	"unsafe"

	"lagoon/api"
	"lagoon/layout"
)

// wide is a list with spare room behind its end, in which something stands.
func wide(l []api.Entry) []api.Entry {
	spare := []api.Entry{{Name: "zzzzzz", Ino: 15}, {Name: "SPARE", Ino: 99}, {}}
	return slices.Concat(l, spare)[: len(l) : len(l)+len(spare)]
}

// R5: entries that are handed in stay as they are, the room behind their end too, whatever is answered.
func TestEntriesStay(t *testing.T) {
	rnd := rand.New(rand.NewSource(6))
	lists := [][]api.Entry{nil, {}, eight(), entriesOf("b", "a"), entriesOf("a", "a"), entriesOf("A"), make([]api.Entry, 20), {{Name: "a", Ino: 16}}, {{Name: "c", Ino: -1}, {Name: "b", Ino: 3}}}
	for range 200 {
		l := randomEntries(rnd)
		lists = append(lists, l, append(l, randomEntries(rnd)...))
	}
	for _, l := range lists {
		l = wide(l)
		was, want := fmt.Sprint(l[:cap(l)]), strings.Clone(laidEntries(l))
		s, err := layout.EncodeEntries(l)
		if got := fmt.Sprint(l[:cap(l)]); got != was {
			t.Errorf("EncodeEntries changes %s to %s", was, got)
		}
		for i := range l[:cap(l)] {
			l[:cap(l)][i] = api.Entry{Name: "gone", Ino: 7}
		}
		if err == ok && s != want {
			t.Errorf("EncodeEntries(%s): %x; want %x", was, s, want)
		}
	}
}

// R6: the entries that are answered are new memory, spare room too.
func TestEntriesApart(t *testing.T) {
	rnd := rand.New(rand.NewSource(7))
	var texts []string
	var answers [][]api.Entry
	for range 100 {
		s := laidEntries(randomEntries(rnd))
		for range 2 {
			l, err := layout.DecodeEntries(s)
			if err != ok {
				t.Fatalf("DecodeEntries(%x): %d", s, err)
			}
			texts, answers = append(texts, s), append(answers, l)
		}
	}
	for k, l := range answers {
		if laidEntries(l) != texts[k] {
			t.Errorf("answer %d: %v; want that of %x", k, l, texts[k])
		}
		l = l[:cap(l)]
		for i := range l {
			l[i] = api.Entry{Name: "mine", Ino: k}
		}
	}
	for k, l := range answers {
		for _, e := range l[:cap(l)] {
			if e != (api.Entry{Name: "mine", Ino: k}) {
				t.Errorf("answer %d shares memory with another: %v", k, e)
			}
		}
	}
}

// sharesBytes tells whether two texts lie over each other in memory.
func sharesBytes(a, b string) bool {
	if a == "" || b == "" {
		return false
	}
	at, other := uintptr(unsafe.Pointer(unsafe.StringData(a))), uintptr(unsafe.Pointer(unsafe.StringData(b)))
	return at < other+uintptr(len(b)) && other < at+uintptr(len(a))
}

// wantNoShare wants texts to lie apart. (Those of one byte are the language's own, and lie where these do.)
func wantNoShare(t *testing.T, what string, texts ...string) {
	t.Helper()
	for i, a := range texts {
		for _, b := range texts[:i] {
			if len(a) > 1 && len(b) > 1 && sharesBytes(a, b) {
				t.Errorf("%s: %q and %q share memory", what, a, b)
			}
		}
	}
}

// R6: the bytes that are answered are new memory: apart from what was handed in, and from each other.
func TestBytesApart(t *testing.T) {
	rnd := rand.New(rand.NewSource(8))
	for range 100 {
		b := randomBlock(rnd)
		b.Data = strings.Clone(b.Data)
		s, _ := layout.EncodeBlock(b)
		again, _ := layout.EncodeBlock(b)
		x, _ := layout.DecodeBlock(s)
		y, _ := layout.DecodeBlock(s)
		wantNoShare(t, "a block", b.Data, s, again, x.Data, y.Data)
		l := randomEntries(rnd)
		s, _ = layout.EncodeEntries(l)
		again, _ = layout.EncodeEntries(l)
		texts := []string{s, again}
		for range 2 {
			k, _ := layout.DecodeEntries(s)
			for _, e := range k {
				texts = append(texts, e.Name)
			}
		}
		for _, e := range l {
			texts = append(texts, e.Name)
		}
		wantNoShare(t, "entries", texts...)
	}
	d, e := layout.New(), layout.New()
	wantNoShare(t, "disks", d[1].Data, d[17].Data, d[18].Data, e[1].Data, e[17].Data, e[18].Data)
	x := someFile()
	s, _ := layout.EncodeInode(x)
	again, _ := layout.EncodeInode(x)
	wantNoShare(t, "inodes", s, again)
	g := layout.EncodeSegment(segmentOf(3, 4))
	wantNoShare(t, "segments", g, layout.EncodeSegment(segmentOf(3, 4)))
}

// R7: what is answered hangs on the arguments alone: in any order, in between each other and behind errors, at many places at once.
func TestSameAnswers(t *testing.T) {
	const rounds = 200
	l := wide(eight())
	want := laidEntries(l)
	var group sync.WaitGroup
	for seed := range 6 {
		group.Go(func() {
			rnd := rand.New(rand.NewSource(int64(seed)))
			for range rounds {
				if s, err := layout.EncodeEntries(l); s != want || err != ok {
					t.Errorf("EncodeEntries: %x, %d", s, err)
				}
				blocks().wantEither(t, randomBlock(rnd), true)
				blocks().wantForm(t, "of nothing", "\x00")
				inodes().wantEither(t, randomInode(rnd), true)
				inodes().wantRange(t, api.Inode{Kind: 3})
				pointerRows().wantEither(t, randomPointers(rnd), true)
				directories().wantEither(t, randomEntries(rnd), true)
				segments().wantEither(t, randomSegment(rnd), true)
				if layout.New() != layout.New() {
					t.Error("New answers two disks that aren't one")
				}
			}
		})
	}
	group.Wait()
}

// R1, R3: texts that are long, of one byte all over: each Decode ends, and none of them is a thing's.
func TestLong(t *testing.T) {
	for _, one := range []string{"\x00", "\x01", "\x02", "\x06", "\x20", "a", "\x7f", "\x80", "\xff", "\x01a", "\x01a\x01", "\x80\x01"} {
		s := strings.Repeat(one, 1<<16)
		if wantAll(t, s) != 0 {
			t.Errorf("%x, and on: is taken for something", one)
		}
	}
}
