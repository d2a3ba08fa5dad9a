package cells_test

import (
	"bytes"
	"math"
	"strings"
	"testing"

	"lagoon/api"
	"lagoon/cells"
	"lagoon/store"
)

// none is the value of an empty cell.
var none = api.Cell{}

// wantNoCells wants Open to answer an error, and no cells.
func wantNoCells(t *testing.T, s *store.Store, n int, want api.Errno) {
	t.Helper()
	if c, err := cells.Open(s, n); c != nil || err != want {
		t.Errorf("Open of %d cells on %d sectors: %v, %d; want nil, %d", n, s.Len(), c, err, want)
	}
}

// The chapter's examples, the power armed anew each time.
func TestExamples(t *testing.T) {
	for _, x := range []struct {
		keep int
		torn bool
		want api.Cell
	}{
		{0, false, api.Cell{Seq: 2, Data: "b"}},
		{1, false, api.Cell{Seq: 3, Data: "c"}},
		{0, true, api.Cell{Seq: 2, Data: "b"}},
	} {
		s := from(t, blank(4))
		c := wantOpened(t, s, none, none)
		wantErr(t, "Put", c.Put(0, "a"), ok)
		if s.Writes() != 1 || s.Pending() != 0 {
			t.Errorf("%d writes, %d pending; want 1, 0", s.Writes(), s.Pending())
		}
		wantValues(t, c, api.Cell{Seq: 1, Data: "a"}, none)
		wantErr(t, "Put", c.Put(0, "b"), ok)
		wantValues(t, c, api.Cell{Seq: 2, Data: "b"}, none)
		wantErr(t, "Put(2)", c.Put(2, ""), 2)
		wantErr(t, "Put of 52 bytes", c.Put(0, strings.Repeat("x", 52)), 2)
		s.Arm(0)
		wantErr(t, "Put with the power armed", c.Put(0, "c"), 13)
		wantErr(t, "Revive", s.Revive(x.keep, x.torn), ok)
		wantOpened(t, s, x.want, none)
	}
}

// P6.1: what Open refuses, in the order of the errors (R2), and that it then writes nothing (R4).
func TestOpenRefused(t *testing.T) {
	for _, n := range []int{math.MinInt, -1, 0, 1, 2, 256, 257, math.MaxInt} {
		wantNoCells(t, nil, n, 1)
	}
	for _, n := range []int{math.MinInt, math.MinInt + 1, -1 << 62, -256, -1, 0, 257, 258, 512, 1 << 32, 1<<32 + 1, 1 << 62, 1<<62 + 1, math.MaxInt - 1, math.MaxInt} {
		for _, sectors := range []int{1, 2, 512} {
			s := from(t, blank(sectors))
			wantNoCells(t, s, n, 2)
			s.Fail()
			wantNoCells(t, s, n, errRange)
			s.Revive(0, false)
			wantStill(t, s, blank(sectors), 0)
		}
		wantNoCells(t, &store.Store{}, n, errRange)
	}
	wantNoCells(t, &store.Store{}, 1, errSpace)
	for _, n := range []int{1, 2, 3, 100, 255, 256} {
		s := from(t, blank(2*n-1))
		wantNoCells(t, s, n, 12)
		s.Fail()
		wantNoCells(t, s, n, errSpace)
		s.Revive(0, false)
		wantStill(t, s, blank(2*n-1), 0)
	}
}

// P6.1: of a store whose power is off nothing is opened; once it is on again, all is there.
func TestOpenOff(t *testing.T) {
	for _, n := range []int{1, 2, 128, 256} {
		for _, sectors := range []int{2 * n, 512} {
			image := with(blank(sectors), 2*n-1, valued(7, "here"))
			s := from(t, image)
			s.Fail()
			wantNoCells(t, s, n, 13)
			s.Revive(0, false)
			wantStill(t, s, image, 0)
			if v := opened(t, s, n).Get(n - 1); v != (api.Cell{Seq: 7, Data: "here"}) {
				t.Errorf("the last of %d cells: %v", n, v)
			}
		}
	}
}

// P6.1, P6.2: as many cells as were asked for, each of its own two sectors, whatever stands behind them; Open writes nothing, also where it is armed.
func TestOpen(t *testing.T) {
	image := blank(maxSectors)
	var all []api.Cell
	for i := range maxCells {
		v := api.Cell{Seq: 1000 + i, Data: mixed(i%52, i)}
		image = with(image, 2*i+i/2%2, valued(v.Seq, v.Data))
		all = append(all, v)
	}
	for _, n := range []int{1, 2, 3, 5, 100, 255, 256} {
		for _, sectors := range []int{2 * n, min(2*n+1, maxSectors), maxSectors} {
			s := from(t, image[:sectors])
			s.Arm(0)
			wantOpened(t, s, all[:n]...)
			wantStill(t, s, image[:sectors], 0)
			wantErr(t, "the armed write", s.Write(0, make([]byte, 64)), errPower)
		}
	}
}

// P6.1: of a new store all cells are empty.
func TestOpenNew(t *testing.T) {
	for _, n := range []int{1, 2, 255, 256} {
		s := from(t, blank(maxSectors))
		wantOpened(t, s, make([]api.Cell, n)...)
		wantStill(t, s, blank(maxSectors), 0)
	}
}

// P6.1: values that aren't durable yet count as they read.
func TestOpenPending(t *testing.T) {
	s := from(t, with(blank(4), 0, valued(9, "old"), valued(8, "older"), nil, valued(3, "c")))
	s.Write(1, valued(10, "new"))
	s.Write(2, valued(4, "d"))
	s.Write(3, make([]byte, 64))
	wantOpened(t, s, api.Cell{Seq: 10, Data: "new"}, api.Cell{Seq: 4, Data: "d"})
	if s.Writes() != 3 || s.Pending() != 3 {
		t.Errorf("%d writes, %d pending; want 3, 3", s.Writes(), s.Pending())
	}
}

// P6.3: one value's sector after the other, written out: which one, each byte of it, that it is durable, and that no other changes.
func TestPutBytes(t *testing.T) {
	for _, x := range []struct{ sectors, n, i int }{{2, 1, 0}, {4, 2, 0}, {4, 2, 1}, {8, 3, 1}, {512, 256, 0}, {512, 256, 100}, {512, 256, 255}, {512, 10, 9}} {
		image := blank(x.sectors)
		for k := range image {
			image[k] = bytes.Repeat([]byte{byte(k)}, 64)
		}
		s := from(t, image)
		c := opened(t, s, x.n)
		want := make([]api.Cell, x.n)
		for k, text := range []string{"a", "", "bc", mixed(51, 1), "", "\x00\x00", mixed(50, 2), "\xff\xfe", strings.Repeat("\x00", 51)} {
			put(t, c, x.i, text)
			b := make([]byte, 64)
			b[0], b[8] = byte(k+1), byte(len(text))
			copy(b[9:], text)
			image = with(image, 2*x.i+k%2, summed(b))
			wantStill(t, s, image, k+1)
			want[x.i] = api.Cell{Seq: k + 1, Data: text}
			wantValues(t, c, want...)
			wantOpened(t, s, want...)
		}
	}
}

// P6.3: the bytes of a sector, all of them written out with their checksum.
func TestPutWhole(t *testing.T) {
	c, s := fresh(t, 1)
	put(t, c, 0, "ab")
	want := append([]byte("\x01\x00\x00\x00\x00\x00\x00\x00\x02ab"), make([]byte, 49)...)
	if b := s.Image()[0]; !bytes.Equal(b[:60], want) || !bytes.Equal(b, summed(bytes.Clone(b))) {
		t.Errorf("the sector of \"ab\": % x", b)
	}
}

// P6.3: numbers of more than 32 bits, and those at the edges of the bytes: the next one, and where it goes.
func TestPutNumbers(t *testing.T) {
	for _, seq := range []int{1, 2, 127, 128, 254, 255, 256, 65534, 65535, 1<<24 - 1, 1<<31 - 1, 1 << 31, 1<<32 - 2, 1<<32 - 1, 1 << 32, 1<<32 + 1, 1<<33 - 1, 1<<39 - 1, maxCount - 2, maxCount - 1} {
		for at := range 2 {
			image := with(blank(4), 2+at, valued(seq, "was"))
			s := from(t, image)
			c := wantOpened(t, s, none, api.Cell{Seq: seq, Data: "was"})
			put(t, c, 1, "is")
			image = with(image, 3-at, laid(uint32((seq+1)&0xffffffff), uint32((seq+1)>>32), 2, "is"))
			wantStill(t, s, image, 1)
			wantValues(t, c, none, api.Cell{Seq: seq + 1, Data: "is"})
			wantOpened(t, s, none, api.Cell{Seq: seq + 1, Data: "is"})
		}
	}
}

// P6.3: behind the number MaxCount there is none: ErrWorn, and nothing is written; a cell may come to it.
func TestPutWorn(t *testing.T) {
	for at := range 2 {
		image := with(blank(4), at, valued(maxCount-1, "last but one"))
		s := from(t, image)
		c := opened(t, s, 2)
		put(t, c, 0, "last")
		image = with(image, 1-at, laid(0, 256, 4, "last"))
		for range 2 {
			for _, text := range []string{"", "more", "last", mixed(51, 1)} {
				wantErr(t, "Put into a worn cell", c.Put(0, text), 15)
			}
			wantErr(t, "Put of 52 bytes into a worn cell", c.Put(0, mixed(52, 1)), errRange)
			wantStill(t, s, image, 1)
			c = wantOpened(t, s, api.Cell{Seq: maxCount, Data: "last"}, none)
		}
		put(t, c, 1, "goes on")
		wantValues(t, c, api.Cell{Seq: maxCount, Data: "last"}, api.Cell{Seq: 1, Data: "goes on"})
	}
}

// P6.3: what Put refuses, in the order of the errors (R2), and that it then changes nothing (R4).
func TestPutRefused(t *testing.T) {
	image := with(blank(6), 0, valued(1, "a"), nil, valued(maxCount, "worn"))
	s := from(t, image)
	c := opened(t, s, 3)
	s.Arm(0)
	for range 2 {
		for _, i := range []int{math.MinInt, -1 << 32, -4, -3, -2, -1, 3, 4, 5, 6, 255, 256, 257, 512, 1 << 32, 1 << 62, 1<<63 - 1} {
			for _, n := range []int{0, 1, 51, 52, 1000} {
				wantErr(t, "Put into no cell", c.Put(i, mixed(n, 1)), 2)
			}
		}
		for _, n := range []int{52, 53, 60, 64, 255, 256, 257, 307, 1 << 16, 1 << 20} {
			for i := range 3 {
				wantErr(t, "Put of too many bytes", c.Put(i, mixed(n, 1)), 2)
			}
		}
		wantErr(t, "Put into a worn cell", c.Put(1, ""), 15)
		wantValues(t, c, api.Cell{Seq: 1, Data: "a"}, api.Cell{Seq: maxCount, Data: "worn"}, none)
		wantStill(t, s, image, 0)
		s.Fail()
		wantErr(t, "Put into no cell with the power off", c.Put(3, ""), errRange)
		wantErr(t, "Put of too many bytes with the power off", c.Put(0, mixed(52, 1)), errRange)
		wantErr(t, "Put into a worn cell with the power off", c.Put(1, ""), errWorn)
		s.Revive(0, true)
	}
	put(t, c, 0, "b")
	wantOpened(t, s, api.Cell{Seq: 2, Data: "b"}, api.Cell{Seq: maxCount, Data: "worn"}, none)
}

// P6.3: texts of every length, and of every byte, come back as they were.
func TestPutTexts(t *testing.T) {
	c, s := fresh(t, 2)
	seq := 0
	try := func(text string) {
		t.Helper()
		put(t, c, 1, text)
		seq++
		wantValues(t, c, none, api.Cell{Seq: seq, Data: text})
		wantOpened(t, s, none, api.Cell{Seq: seq, Data: text})
	}
	for n := range 52 {
		try(mixed(n, n))
		try(strings.Repeat("\x00", n))
		try(strings.Repeat("\xff", n))
	}
	for b := range 256 {
		try(string([]byte{byte(b)}))
		try(string([]byte{'x', byte(b), 0}))
	}
}

// P6.3: the same text again is a value of its own: it is written, with the next number.
func TestPutAgain(t *testing.T) {
	c, s := fresh(t, 1)
	for k := 1; k <= 5; k++ {
		put(t, c, 0, "same")
		wantValues(t, c, api.Cell{Seq: k, Data: "same"})
		if s.Writes() != k {
			t.Errorf("%d writes; want %d", s.Writes(), k)
		}
	}
	wantImage(t, s, [][]byte{valued(5, "same"), valued(4, "same")})
}

// P6.3: each of all cells has its own sectors and its own number.
func TestPutAll(t *testing.T) {
	c, s := fresh(t, maxCells)
	image := blank(maxSectors)
	want := make([]api.Cell, maxCells)
	for round := 1; round <= 3; round++ {
		for k := range maxCells {
			i := k * 77 % maxCells
			if i%4 < round {
				want[i].Seq++
				want[i].Data = mixed((i+round)%52, i)
				put(t, c, i, want[i].Data)
				image = with(image, 2*i+(want[i].Seq-1)%2, valued(want[i].Seq, want[i].Data))
			}
		}
		wantValues(t, c, want...)
		wantImage(t, s, image)
	}
	wantOpened(t, s, want...)
}

// P6.3: what was pending ahead is durable behind a Put, for its Barrier is the store's.
func TestPutBarrier(t *testing.T) {
	s := from(t, blank(4))
	c := opened(t, s, 1)
	s.Write(3, bytes.Repeat([]byte{9}, 64))
	put(t, c, 0, "a")
	wantStill(t, s, with(blank(4), 0, valued(1, "a"), make([]byte, 64), make([]byte, 64), bytes.Repeat([]byte{9}, 64)), 2)
}

// nil *Cells: Put answers ErrNil ahead of all else; there are none.
func TestNil(t *testing.T) {
	var c *cells.Cells
	for _, i := range []int{math.MinInt, -1, 0, 1, 256, math.MaxInt} {
		for _, n := range []int{0, 51, 52} {
			wantErr(t, "Put of nil", c.Put(i, mixed(n, 1)), 1)
		}
	}
	wantValues(t, c)
}

// Cells that Open didn't make are none.
func TestZero(t *testing.T) {
	var c cells.Cells
	for _, i := range []int{-1, 0, 1, 255, 256} {
		wantErr(t, "Put into zero Cells", c.Put(i, ""), errRange)
	}
	wantValues(t, &c)
}

// R7: two sets of cells on two stores don't touch each other.
func TestTwoSets(t *testing.T) {
	a, sa := fresh(t, 2)
	b, sb := fresh(t, 3)
	put(t, a, 0, "a", "aa")
	wantValues(t, b, none, none, none)
	wantStill(t, sb, blank(6), 0)
	put(t, b, 0, "b")
	put(t, b, 2, "c")
	wantValues(t, a, api.Cell{Seq: 2, Data: "aa"}, none)
	wantStill(t, sa, [][]byte{valued(1, "a"), valued(2, "aa"), make([]byte, 64), make([]byte, 64)}, 2)
	sa.Arm(0)
	wantErr(t, "Put with the power armed", a.Put(1, "x"), errPower)
	put(t, b, 1, "goes on")
	put(t, b, 0, "bb")
	wantValues(t, a, api.Cell{Seq: 2, Data: "aa"}, none)
	sa.Revive(1, false)
	wantErr(t, "Put into dead cells", a.Put(0, "x"), errPower)
	wantOpened(t, sa, api.Cell{Seq: 2, Data: "aa"}, api.Cell{Seq: 1, Data: "x"})
	wantOpened(t, sb, api.Cell{Seq: 2, Data: "bb"}, api.Cell{Seq: 1, Data: "goes on"}, api.Cell{Seq: 1, Data: "c"})
	wantValues(t, b, api.Cell{Seq: 2, Data: "bb"}, api.Cell{Seq: 1, Data: "goes on"}, api.Cell{Seq: 1, Data: "c"})
}

// R7: cells and their copy are two: what one is told, and its death, the other doesn't tell.
func TestCopy(t *testing.T) {
	c, s := fresh(t, 2)
	put(t, c, 0, "a")
	other := *c
	put(t, c, 0, "b")
	put(t, c, 1, "c")
	wantValues(t, &other, api.Cell{Seq: 1, Data: "a"}, none)
	s.Arm(0)
	wantErr(t, "Put with the power armed", c.Put(1, "d"), errPower)
	s.Revive(0, false)
	wantErr(t, "Put into dead cells", c.Put(1, "d"), errPower)
	put(t, &other, 1, "e")
	wantValues(t, c, api.Cell{Seq: 2, Data: "b"}, api.Cell{Seq: 1, Data: "c"})
}
