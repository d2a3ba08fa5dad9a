package store_test

import (
	"bytes"
	"math"
	"math/rand"
	"slices"
	"testing"

	"lagoon/api"
	"lagoon/store"
)

// sectorBytes and maxSectors as the document tells them.
const (
	sectorBytes = 64
	maxSectors  = 512
)

// nowhere are numbers of sectors that no store has.
var nowhere = []int{math.MinInt, math.MinInt + 1, math.MinInt32, -maxSectors, -2, -1, maxSectors, maxSectors + 1, math.MaxInt32, 1 << 32, math.MaxInt - 1, math.MaxInt}

// odd are lengths that a sector's bytes don't have.
var odd = []int{0, 1, 2, 32, 62, 63, 65, 66, 127, 128, 4096}

// all is a sector's bytes, each of them x.
func all(x byte) []byte {
	return bytes.Repeat([]byte{x}, sectorBytes)
}

// mixed is a sector's bytes, no two alike.
func mixed(x byte) []byte {
	b := make([]byte, sectorBytes)
	for i := range b {
		b[i] = x + byte(i)
	}
	return b
}

// made is a new store of n sectors.
func made(t *testing.T, n int) *store.Store {
	t.Helper()
	s, err := store.New(n)
	if s == nil || err != api.OK {
		t.Fatalf("New(%d): %v, %d", n, s, err)
	}
	return s
}

// from is a store of these sectors.
func from(t *testing.T, image ...[]byte) *store.Store {
	t.Helper()
	s, err := store.From(image)
	if s == nil || err != api.OK {
		t.Fatalf("From of %d sectors: %v, %d", len(image), s, err)
	}
	return s
}

// wantErr holds an error against the one that should be.
func wantErr(t *testing.T, call string, got, want api.Errno) {
	t.Helper()
	if got != want {
		t.Errorf("%s: %d; want %d", call, got, want)
	}
}

// write writes, and wants it to go well.
func write(t *testing.T, s *store.Store, i int, b []byte) {
	t.Helper()
	wantErr(t, "Write", s.Write(i, b), api.OK)
}

// barrier makes all durable, and wants it to go well.
func barrier(t *testing.T, s *store.Store) {
	t.Helper()
	wantErr(t, "Barrier", s.Barrier(), api.OK)
}

// revive turns the power on again, and wants it to go well.
func revive(t *testing.T, s *store.Store, keep int, torn bool) {
	t.Helper()
	wantErr(t, "Revive", s.Revive(keep, torn), api.OK)
}

// crash lets the power fail and come back.
func crash(t *testing.T, s *store.Store, keep int, torn bool) {
	t.Helper()
	s.Fail()
	revive(t, s, keep, torn)
}

// wantRead holds a sector, as it reads, against what it should be; nil: it can't be read.
func wantRead(t *testing.T, s *store.Store, i int, want []byte) {
	t.Helper()
	wantCode := api.OK
	if want == nil {
		wantCode = api.ErrRecord
	}
	if got, err := s.Read(i); err != wantCode || !bytes.Equal(got, want) {
		t.Errorf("Read(%d): %v, %d; want %v, %d", i, got, err, want, wantCode)
	}
}

// wantNoRead wants a Read to answer an error, and no bytes.
func wantNoRead(t *testing.T, s *store.Store, i int, want api.Errno) {
	t.Helper()
	if got, err := s.Read(i); err != want || len(got) != 0 {
		t.Errorf("Read(%d): %v, %d; want none, %d", i, got, err, want)
	}
}

// wantImage holds the durable sectors against what they should be; nil: a torn one.
func wantImage(t *testing.T, s *store.Store, want ...[]byte) {
	t.Helper()
	if got := s.Image(); !slices.EqualFunc(got, want, bytes.Equal) {
		t.Errorf("Image: %v; want %v", got, want)
	}
}

// wantCounts holds what a store tells of itself against what it should.
func wantCounts(t *testing.T, s *store.Store, off bool, pending, writes, n int) {
	t.Helper()
	if s.Off() != off || s.Pending() != pending || s.Writes() != writes || s.Len() != n {
		t.Errorf("Off %v, Pending %d, Writes %d, Len %d; want %v, %d, %d, %d", s.Off(), s.Pending(), s.Writes(), s.Len(), off, pending, writes, n)
	}
}

// wantUnarmed writes often, and wants no write to turn the power off.
func wantUnarmed(t *testing.T, s *store.Store) {
	t.Helper()
	for range 20 {
		write(t, s, 0, all(77))
	}
	if s.Off() {
		t.Error("the power went off, though nothing is armed")
	}
}

// P4.1: how many sectors there may be, and what New's store is.
func TestNew(t *testing.T) {
	for _, n := range []int{math.MinInt, math.MinInt32, -512, -1, 0, 513, 514, 1024, 1 << 32, 1<<32 + 1, math.MaxInt} {
		if s, err := store.New(n); s != nil || err != 2 {
			t.Errorf("New(%d): %v, %d; want nil, 2", n, s, err)
		}
	}
	for _, n := range []int{1, 2, 3, 60, 511, 512} {
		s := made(t, n)
		wantCounts(t, s, false, 0, 0, n)
		wantImage(t, s, slices.Repeat([][]byte{all(0)}, n)...)
		for i := range n {
			wantRead(t, s, i, all(0))
		}
		wantErr(t, "Revive of a new store", s.Revive(0, true), api.ErrBusy)
		wantUnarmed(t, s)
	}
}

// P4.1: which sectors From takes, and what its store is.
func TestFrom(t *testing.T) {
	for _, image := range [][][]byte{nil, {}, make([][]byte, 513), slices.Repeat([][]byte{all(1)}, 513), slices.Repeat([][]byte{all(1)}, 4096)} {
		if s, err := store.From(image); s != nil || err != api.ErrRange {
			t.Errorf("From of %d sectors: %v, %d; want nil, 2", len(image), s, err)
		}
	}
	for _, n := range []int{1, 2, 511, 512} {
		image := make([][]byte, n)
		for i := range image {
			image[i] = mixed(byte(i))
		}
		s := from(t, image...)
		wantCounts(t, s, false, 0, 0, n)
		wantImage(t, s, image...)
		for i := range image {
			wantRead(t, s, i, image[i])
		}
		wantErr(t, "Revive of a new store", s.Revive(0, true), api.ErrBusy)
		wantUnarmed(t, s)
	}
}

// P4.1: a sector of neither 64 bytes nor none is refused, wherever it stands; one without bytes is torn.
func TestFromLengths(t *testing.T) {
	for _, n := range odd {
		b := bytes.Repeat([]byte{9}, n)
		for place := range 3 {
			image := [][]byte{all(1), nil, all(3)}
			image[place] = b
			s, err := store.From(image)
			if n != 0 && (s != nil || err != api.ErrRange) {
				t.Errorf("From with %d bytes at %d: %v, %d; want nil, 2", n, place, s, err)
			}
			if n == 0 && (s == nil || err != api.OK) {
				t.Errorf("From with no bytes at %d: %v, %d", place, s, err)
			}
		}
		if s, err := store.From([][]byte{b}); n != 0 && (s != nil || err != api.ErrRange) {
			t.Errorf("From of %d bytes: %v, %d; want nil, 2", n, s, err)
		}
	}
	for _, none := range [][]byte{nil, {}, make([]byte, 0, 64)} {
		s := from(t, none, all(2), none)
		wantImage(t, s, nil, all(2), nil)
		wantRead(t, s, 0, nil)
		wantRead(t, s, 1, all(2))
		wantRead(t, s, 2, nil)
		wantCounts(t, s, false, 0, 0, 3)
	}
	s := from(t, make([][]byte, 512)...)
	wantImage(t, s, make([][]byte, 512)...)
	wantRead(t, s, 511, nil)
}

// P4.2: what Write refuses, and that it then changes nothing (R4).
func TestWriteRefused(t *testing.T) {
	s := from(t, all(1), nil, all(3))
	write(t, s, 2, all(4))
	s.Arm(1)
	refused := func(i int, b []byte, want api.Errno) {
		t.Helper()
		wantErr(t, "Write", s.Write(i, b), want)
		wantImage(t, s, all(1), nil, all(3))
	}
	for _, i := range append(nowhere, 3, 4, 63) {
		refused(i, all(5), api.ErrRange)
		refused(i, nil, api.ErrRange)
	}
	for _, n := range odd {
		for i := range 3 {
			refused(i, make([]byte, n), api.ErrRange)
		}
	}
	refused(0, nil, api.ErrRange)
	refused(0, make([]byte, 63, 64), api.ErrRange)
	wantCounts(t, s, false, 1, 1, 3)
	wantRead(t, s, 0, all(1))
	wantRead(t, s, 1, nil)
	wantRead(t, s, 2, all(4))
	write(t, s, 0, all(6))
	wantErr(t, "the write behind the armed one", s.Write(0, all(7)), api.ErrPower)
}

// P4.2: with the power off Write, Read and Barrier answer that first (R2), and change nothing (R4).
func TestPowerOff(t *testing.T) {
	s := from(t, all(1), nil)
	write(t, s, 0, all(2))
	s.Fail()
	s.Arm(0)
	for _, i := range append(nowhere, 0, 1, 2) {
		for _, b := range [][]byte{nil, make([]byte, 63), all(3), make([]byte, 65)} {
			wantErr(t, "Write", s.Write(i, b), api.ErrPower)
		}
		wantNoRead(t, s, i, api.ErrPower)
	}
	wantErr(t, "Barrier", s.Barrier(), 13)
	wantCounts(t, s, true, 1, 1, 2)
	wantImage(t, s, all(1), nil)
	revive(t, s, 9, true)
	wantImage(t, s, all(2), nil)
	wantErr(t, "the armed write", s.Write(1, all(4)), api.ErrPower)
	wantCounts(t, s, true, 1, 2, 2)
}

// P4.2: Read answers the last pending write, else the durable bytes; of a torn sector without one nothing.
func TestRead(t *testing.T) {
	s := from(t, mixed(1), nil, mixed(3))
	for _, i := range append(nowhere, 3, 4) {
		wantNoRead(t, s, i, api.ErrRange)
	}
	wantRead(t, s, 0, mixed(1))
	wantNoRead(t, s, 1, 14)
	for x := range 5 {
		write(t, s, 0, mixed(byte(10+x)))
		write(t, s, 1, mixed(byte(20+x)))
		wantRead(t, s, 0, mixed(byte(10+x)))
		wantRead(t, s, 1, mixed(byte(20+x)))
		wantRead(t, s, 2, mixed(3))
	}
	wantImage(t, s, mixed(1), nil, mixed(3))
	wantCounts(t, s, false, 10, 10, 3)
	crash(t, s, 0, false)
	wantRead(t, s, 0, mixed(1))
	wantRead(t, s, 1, nil)
	wantRead(t, s, 2, mixed(3))
}

// P4.2: Barrier makes the pending writes durable, in order, and mends torn sectors.
func TestBarrier(t *testing.T) {
	s := from(t, all(1), nil, nil, all(4))
	barrier(t, s)
	wantImage(t, s, all(1), nil, nil, all(4))
	wantCounts(t, s, false, 0, 0, 4)
	for _, i := range []int{0, 1, 0, 3, 0, 1} {
		write(t, s, i, all(byte(10+s.Writes())))
	}
	wantImage(t, s, all(1), nil, nil, all(4))
	wantCounts(t, s, false, 6, 6, 4)
	barrier(t, s)
	wantImage(t, s, all(14), all(15), nil, all(13))
	wantCounts(t, s, false, 0, 6, 4)
	wantRead(t, s, 0, all(14))
	wantRead(t, s, 1, all(15))
	wantRead(t, s, 2, nil)
	wantRead(t, s, 3, all(13))
	barrier(t, s)
	crash(t, s, 9, true)
	wantImage(t, s, all(14), all(15), nil, all(13))
	wantErr(t, "Barrier", s.Barrier(), api.OK)
}

// P4.3: the armed writes go well, the one behind them is pending, and the power goes off at it.
func TestArm(t *testing.T) {
	for _, k := range []int{0, 1, 2, 3, 7, 100} {
		s := made(t, 2)
		s.Arm(k)
		for range k {
			write(t, s, 0, all(1))
		}
		wantCounts(t, s, false, k, k, 2)
		wantErr(t, "Write", s.Write(1, all(2)), api.ErrPower)
		wantCounts(t, s, true, k+1, k+1, 2)
		wantErr(t, "Write with the power off", s.Write(1, all(3)), api.ErrPower)
		wantNoRead(t, s, 1, api.ErrPower)
		wantCounts(t, s, true, k+1, k+1, 2)
		revive(t, s, k+1, true)
		wantRead(t, s, 1, all(2))
		wantUnarmed(t, s)
	}
}

// P4.3: arming anew counts from there on; below 0 it is armed no more; a Barrier, a Read and refused writes use nothing up.
func TestArmAgain(t *testing.T) {
	s := made(t, 1)
	s.Arm(1)
	write(t, s, 0, all(1))
	s.Arm(2)
	barrier(t, s)
	wantRead(t, s, 0, all(1))
	wantErr(t, "Write", s.Write(1, all(1)), api.ErrRange)
	wantErr(t, "Revive", s.Revive(1, true), api.ErrBusy)
	write(t, s, 0, all(2))
	write(t, s, 0, all(3))
	wantErr(t, "the write behind two", s.Write(0, all(4)), api.ErrPower)
	for _, k := range []int{-1, -2, math.MinInt32, math.MinInt} {
		s := made(t, 1)
		for _, before := range []int{0, 1, 5} {
			s.Arm(before)
			s.Arm(k)
			wantUnarmed(t, s)
		}
		s.Arm(k)
		s.Arm(0)
		wantErr(t, "Write armed with 0", s.Write(0, all(1)), api.ErrPower)
	}
	s = made(t, 1)
	s.Arm(math.MaxInt)
	wantUnarmed(t, s)
	s.Arm(0)
	wantCounts(t, s, false, 20, 20, 1)
	wantErr(t, "Write armed with 0", s.Write(0, all(1)), api.ErrPower)
}

// P4.3: behind Fail it is armed no more; what is armed with the power off holds behind Revive.
func TestArmAndFail(t *testing.T) {
	s := made(t, 1)
	s.Arm(0)
	crash(t, s, 0, false)
	wantUnarmed(t, s)
	s.Arm(3)
	write(t, s, 0, all(1))
	crash(t, s, 0, false)
	wantUnarmed(t, s)
	s.Fail()
	s.Arm(1)
	s.Fail()
	revive(t, s, 0, false)
	wantUnarmed(t, s)
	s.Fail()
	s.Arm(1)
	revive(t, s, 0, false)
	write(t, s, 0, all(1))
	wantErr(t, "Write behind the armed one", s.Write(0, all(2)), api.ErrPower)
}

// P4.3: Fail loses nothing yet: what was pending is still, and may become durable.
func TestFail(t *testing.T) {
	s := made(t, 2)
	write(t, s, 0, all(1))
	write(t, s, 1, all(2))
	for range 3 {
		s.Fail()
		wantCounts(t, s, true, 2, 2, 2)
		wantImage(t, s, all(0), all(0))
	}
	revive(t, s, 2, false)
	wantCounts(t, s, false, 0, 2, 2)
	wantImage(t, s, all(1), all(2))
}

// P4.3: Revive with the power on is refused, and changes nothing (R4).
func TestReviveBusy(t *testing.T) {
	s := from(t, all(1), nil)
	write(t, s, 0, all(2))
	s.Arm(1)
	for _, keep := range []int{math.MinInt, -1, 0, 1, 2, math.MaxInt} {
		wantErr(t, "Revive", s.Revive(keep, true), 26)
		wantErr(t, "Revive", s.Revive(keep, false), api.ErrBusy)
	}
	wantCounts(t, s, false, 1, 1, 2)
	wantImage(t, s, all(1), nil)
	wantRead(t, s, 0, all(2))
	write(t, s, 1, all(3))
	wantErr(t, "Write behind the armed one", s.Write(0, all(4)), api.ErrPower)
}

// P4.3: how many of the pending writes Revive keeps, in order, and which sector is torn.
func TestRevive(t *testing.T) {
	for _, c := range []struct {
		keep int
		torn bool
		want [][]byte
	}{
		{math.MinInt, false, [][]byte{all(1), nil, all(3), nil}},
		{-1, false, [][]byte{all(1), nil, all(3), nil}},
		{0, false, [][]byte{all(1), nil, all(3), nil}},
		{1, false, [][]byte{all(10), nil, all(3), nil}},
		{2, false, [][]byte{all(10), all(11), all(3), nil}},
		{3, false, [][]byte{all(12), all(11), all(3), nil}},
		{4, false, [][]byte{all(12), all(11), all(13), nil}},
		{5, false, [][]byte{all(12), all(14), all(13), nil}},
		{6, false, [][]byte{all(12), all(14), all(13), nil}},
		{math.MaxInt, false, [][]byte{all(12), all(14), all(13), nil}},
		{math.MinInt, true, [][]byte{nil, nil, all(3), nil}},
		{-1, true, [][]byte{nil, nil, all(3), nil}},
		{0, true, [][]byte{nil, nil, all(3), nil}},
		{1, true, [][]byte{all(10), nil, all(3), nil}},
		{2, true, [][]byte{nil, all(11), all(3), nil}},
		{3, true, [][]byte{all(12), all(11), nil, nil}},
		{4, true, [][]byte{all(12), nil, all(13), nil}},
		{5, true, [][]byte{all(12), all(14), all(13), nil}},
		{6, true, [][]byte{all(12), all(14), all(13), nil}},
		{math.MaxInt, true, [][]byte{all(12), all(14), all(13), nil}},
	} {
		s := from(t, all(1), nil, all(3), nil)
		for x, i := range []int{0, 1, 0, 2, 1} {
			write(t, s, i, all(byte(10+x)))
		}
		crash(t, s, c.keep, c.torn)
		wantCounts(t, s, false, 0, 5, 4)
		wantImage(t, s, c.want...)
		for i, b := range c.want {
			wantRead(t, s, i, b)
		}
		crash(t, s, 9, true)
		wantImage(t, s, c.want...)
	}
}

// P4.3: with nothing pending there is no next write to be torn.
func TestReviveOfNothing(t *testing.T) {
	s := from(t, all(1), nil)
	for _, keep := range []int{math.MinInt, -1, 0, 1, math.MaxInt} {
		crash(t, s, keep, true)
		wantImage(t, s, all(1), nil)
		wantCounts(t, s, false, 0, 0, 2)
	}
	write(t, s, 0, all(2))
	barrier(t, s)
	crash(t, s, 0, true)
	wantImage(t, s, all(2), nil)
}

// P4.3: a torn sector can't be read till it is written again, which by itself mends it for Read alone, not for the Image.
func TestTorn(t *testing.T) {
	s := from(t, all(1), all(2))
	write(t, s, 1, all(3))
	crash(t, s, 0, true)
	wantNoRead(t, s, 1, api.ErrRecord)
	wantImage(t, s, all(1), nil)
	barrier(t, s)
	wantNoRead(t, s, 1, api.ErrRecord)
	crash(t, s, 0, false)
	wantNoRead(t, s, 1, api.ErrRecord)
	write(t, s, 1, all(4))
	wantRead(t, s, 1, all(4))
	wantImage(t, s, all(1), nil)
	crash(t, s, 0, false)
	wantNoRead(t, s, 1, api.ErrRecord)
	write(t, s, 1, all(5))
	crash(t, s, 1, true)
	wantRead(t, s, 1, all(5))
	wantImage(t, s, all(1), all(5))
	write(t, s, 1, all(6))
	write(t, s, 1, all(7))
	crash(t, s, 1, true)
	wantNoRead(t, s, 1, api.ErrRecord)
	write(t, s, 1, all(8))
	barrier(t, s)
	wantImage(t, s, all(1), all(8))
	wantRead(t, s, 0, all(1))
}

// P4.4: Writes counts those that answered OK or went off, and no others; Pending goes down to 0 at a Barrier and a Revive.
func TestCounts(t *testing.T) {
	s := made(t, 3)
	write(t, s, 0, all(1))
	write(t, s, 2, all(1))
	s.Write(3, all(1))
	s.Write(-1, all(1))
	s.Write(0, nil)
	wantCounts(t, s, false, 2, 2, 3)
	barrier(t, s)
	wantCounts(t, s, false, 0, 2, 3)
	s.Arm(1)
	write(t, s, 1, all(1))
	s.Write(1, all(2))
	wantCounts(t, s, true, 2, 4, 3)
	s.Write(1, all(3))
	s.Barrier()
	wantCounts(t, s, true, 2, 4, 3)
	revive(t, s, 1, true)
	wantCounts(t, s, false, 0, 4, 3)
	write(t, s, 1, all(1))
	wantCounts(t, s, false, 1, 5, 3)
	s.Fail()
	wantCounts(t, s, true, 1, 5, 3)
}

// The chapter's examples.
func TestExamples(t *testing.T) {
	s := made(t, 2)
	write(t, s, 0, all(1))
	wantCounts(t, s, false, 1, 1, 2)
	wantImage(t, s, all(0), all(0))
	wantRead(t, s, 0, all(1))
	barrier(t, s)
	wantImage(t, s, all(1), all(0))
	write(t, s, 0, all(2))
	write(t, s, 1, all(3))
	s.Fail()
	revive(t, s, 1, true)
	wantRead(t, s, 0, all(2))
	wantNoRead(t, s, 1, api.ErrRecord)
	write(t, s, 1, all(5))
	wantRead(t, s, 1, all(5))
	wantErr(t, "Revive with the power on", s.Revive(0, false), api.ErrBusy)
	barrier(t, s)
	s.Arm(0)
	wantErr(t, "Write armed with 0", s.Write(1, all(4)), api.ErrPower)
	wantCounts(t, s, true, 1, 5, 2)
	revive(t, s, 0, false)
	wantRead(t, s, 1, all(5))
	wantImage(t, s, all(2), all(5))
}

// The chapter's examples word by word: the last write is armed while 64 times 5 isn't durable, and both are lost.
func TestExamplesWithoutBarrier(t *testing.T) {
	s := from(t, all(2), nil)
	write(t, s, 1, all(5))
	s.Arm(0)
	wantErr(t, "Write armed with 0", s.Write(1, all(4)), api.ErrPower)
	wantCounts(t, s, true, 2, 2, 2)
	revive(t, s, 0, false)
	wantRead(t, s, 1, nil)
}

// A nil store answers as the chapter says, at all arguments.
func TestNilStore(t *testing.T) {
	var s *store.Store
	s.Fail()
	for _, i := range append(nowhere, 0, 1) {
		s.Arm(i)
		wantErr(t, "Write", s.Write(i, all(1)), api.ErrNil)
		wantErr(t, "Write", s.Write(i, nil), 1)
		wantNoRead(t, s, i, api.ErrNil)
		wantErr(t, "Revive", s.Revive(i, true), api.ErrNil)
		wantErr(t, "Revive", s.Revive(i, false), api.ErrNil)
	}
	wantErr(t, "Barrier", s.Barrier(), api.ErrNil)
	wantCounts(t, s, false, 0, 0, 0)
	wantImage(t, s)
}

// A store that neither New nor From made has no sectors, and no call of it panics (R1).
func TestZeroStore(t *testing.T) {
	var s store.Store
	for _, i := range append(nowhere, 0, 1) {
		wantErr(t, "Write", s.Write(i, all(1)), api.ErrRange)
		wantNoRead(t, &s, i, api.ErrRange)
	}
	barrier(t, &s)
	s.Arm(0)
	crash(t, &s, 1, true)
	wantCounts(t, &s, false, 0, 0, 0)
	wantImage(t, &s)
}

// R5: what is handed in is neither changed nor kept, the spare room behind it neither.
func TestHandedIn(t *testing.T) {
	room := append(mixed(1), mixed(101)...)
	b := room[:sectorBytes]
	spare := append([][]byte{b, nil, mixed(3)}, mixed(4))
	image := spare[:3]
	s := from(t, image...)
	if !bytes.Equal(room, append(mixed(1), mixed(101)...)) || !bytes.Equal(spare[3], mixed(4)) || len(spare[1]) != 0 {
		t.Error("From changed what it was given")
	}
	write(t, s, 1, b)
	write(t, s, 2, b)
	barrier(t, s)
	write(t, s, 2, b)
	if !bytes.Equal(room, append(mixed(1), mixed(101)...)) {
		t.Error("Write changed what it was given")
	}
	clear(room)
	image[2] = nil
	wantImage(t, s, mixed(1), mixed(1), mixed(1))
	for i := range 3 {
		wantRead(t, s, i, mixed(1))
	}
	clear(b[:cap(b)])
	barrier(t, s)
	wantImage(t, s, mixed(1), mixed(1), mixed(1))
}

// scribble fills bytes, and the spare room behind them.
func scribble(b []byte) {
	b = b[:cap(b)]
	for i := range b {
		b[i] = 0xee
	}
}

// R6: what Read and Image answer is new memory, spare room too.
func TestAnswered(t *testing.T) {
	s := from(t, mixed(1), mixed(2), nil, mixed(4))
	write(t, s, 1, mixed(5))
	want := [][]byte{mixed(1), mixed(2), nil, mixed(4)}
	other := s.Image()
	image := s.Image()
	for i := range image {
		scribble(image[i])
		image[i] = append(image[i], 1, 2, 3)
		for j, b := range other {
			if !bytes.Equal(b, want[j]) {
				t.Fatalf("two answers of Image share memory: %d, %d", i, j)
			}
		}
	}
	image = s.Image()
	scribble(image[0])
	if !slices.EqualFunc(image[1:], want[1:], bytes.Equal) {
		t.Error("sectors of one Image share memory")
	}
	wantImage(t, s, want...)
	for i := range 2 {
		first, _ := s.Read(i)
		second, _ := s.Read(i)
		scribble(first)
		if bytes.Equal(first, second) {
			t.Errorf("two answers of Read(%d) share memory", i)
		}
	}
	wantRead(t, s, 0, mixed(1))
	wantRead(t, s, 1, mixed(5))
	barrier(t, s)
	wantImage(t, s, mixed(1), mixed(5), nil, mixed(4))
}

// R7: two stores don't touch each other, made alike or from one image.
func TestTwoStores(t *testing.T) {
	image := [][]byte{all(1), nil, all(3)}
	a, b := from(t, image...), from(t, image...)
	c := from(t, b.Image()...)
	d := made(t, 3)
	a.Arm(2)
	write(t, a, 0, all(4))
	write(t, a, 1, all(5))
	wantErr(t, "Write behind the armed ones", a.Write(2, all(6)), api.ErrPower)
	for _, s := range []*store.Store{b, c} {
		wantCounts(t, s, false, 0, 0, 3)
		wantImage(t, s, image...)
		wantUnarmed(t, s)
		crash(t, s, 0, false)
	}
	wantCounts(t, d, false, 0, 0, 3)
	revive(t, a, 1, true)
	wantImage(t, a, all(4), nil, all(3))
	wantImage(t, b, image...)
	wantImage(t, c, image...)
	wantImage(t, d, all(0), all(0), all(0))
}

// R7: a store and its copy go on apart from each other.
func TestCopiedStore(t *testing.T) {
	a := from(t, all(1), nil)
	write(t, a, 0, all(2))
	write(t, a, 1, all(3))
	twin := *a
	write(t, a, 0, all(4))
	write(t, &twin, 0, all(5))
	write(t, &twin, 1, all(6))
	wantRead(t, a, 0, all(4))
	wantRead(t, a, 1, all(3))
	wantRead(t, &twin, 0, all(5))
	wantCounts(t, a, false, 3, 3, 2)
	wantCounts(t, &twin, false, 4, 4, 2)
	crash(t, a, 2, true)
	wantImage(t, a, nil, all(3))
	wantImage(t, &twin, all(1), nil)
	barrier(t, &twin)
	wantImage(t, &twin, all(5), all(6))
	wantImage(t, a, nil, all(3))
}

// plain is a store as the chapter tells it, with lists alone.
type plain struct {
	durable [][]byte // nil: torn
	places  []int
	pending [][]byte
	writes  int
	off     bool
	armed   int // below 0: it isn't
}

// write as P4.2 tells it.
func (p *plain) write(i int, b []byte) api.Errno {
	if p.off {
		return api.ErrPower
	}
	if i < 0 || i >= len(p.durable) || len(b) != sectorBytes {
		return api.ErrRange
	}
	p.places = append(p.places, i)
	p.pending = append(p.pending, slices.Clone(b))
	p.writes++
	p.armed--
	if p.armed == -1 {
		p.off = true
		return api.ErrPower
	}
	p.armed = max(p.armed, -1)
	return api.OK
}

// read as P4.2 tells it.
func (p *plain) read(i int) ([]byte, api.Errno) {
	if p.off {
		return nil, api.ErrPower
	}
	if i < 0 || i >= len(p.durable) {
		return nil, api.ErrRange
	}
	for k, place := range slices.Backward(p.places) {
		if place == i {
			return p.pending[k], api.OK
		}
	}
	if p.durable[i] == nil {
		return nil, api.ErrRecord
	}
	return p.durable[i], api.OK
}

// keep makes the first n of the pending writes durable.
func (p *plain) keep(n int) {
	for k := range n {
		p.durable[p.places[k]] = p.pending[k]
	}
	p.places, p.pending = p.places[n:], p.pending[n:]
}

// barrier as P4.2 tells it.
func (p *plain) barrier() api.Errno {
	if p.off {
		return api.ErrPower
	}
	p.keep(len(p.pending))
	return api.OK
}

// revive as P4.3 tells it.
func (p *plain) revive(keep int, torn bool) api.Errno {
	if !p.off {
		return api.ErrBusy
	}
	p.keep(min(max(keep, 0), len(p.pending)))
	if torn && len(p.places) > 0 {
		p.durable[p.places[0]] = nil
	}
	p.places, p.pending, p.off = nil, nil, false
	return api.OK
}

// wantLike holds all that a store tells against the plain one.
func wantLike(t *testing.T, s *store.Store, p *plain) {
	t.Helper()
	wantCounts(t, s, p.off, len(p.pending), p.writes, len(p.durable))
	wantImage(t, s, p.durable...)
	for i := -1; i <= len(p.durable); i++ {
		got, err := s.Read(i)
		want, wantCode := p.read(i)
		if err != wantCode || !bytes.Equal(got, want) {
			t.Errorf("Read(%d): %v, %d; want %v, %d", i, got, err, want, wantCode)
		}
	}
}

// P4.1 to P4.4: long rows of all calls, against the plain store.
func TestRows(t *testing.T) {
	for seed := range int64(60) {
		rnd := rand.New(rand.NewSource(seed))
		n := 1 + rnd.Intn(5)
		p := &plain{armed: -1}
		for i := range n {
			p.durable = append(p.durable, nil)
			if rnd.Intn(3) > 0 {
				p.durable[i] = mixed(byte(rnd.Intn(256)))
			}
		}
		s := from(t, p.durable...)
		for step := 0; step < 400 && !t.Failed(); step++ {
			play(t, rnd, s, p)
			wantLike(t, s, p)
		}
		if t.Failed() {
			t.Fatalf("seed %d", seed)
		}
	}
}

// play makes one call of both stores.
func play(t *testing.T, rnd *rand.Rand, s *store.Store, p *plain) {
	t.Helper()
	switch rnd.Intn(16) {
	case 0, 1:
		wantErr(t, "Barrier", s.Barrier(), p.barrier())
	case 2:
		k := rnd.Intn(8) - 2
		s.Arm(k)
		p.armed = max(k, -1)
	case 3:
		s.Fail()
		p.off, p.armed = true, -1
	case 4, 5, 6:
		keep, torn := rnd.Intn(9)-2, rnd.Intn(2) == 0
		wantErr(t, "Revive", s.Revive(keep, torn), p.revive(keep, torn))
	case 7:
		b := make([]byte, rnd.Intn(130))
		i := rnd.Intn(len(p.durable)+4) - 2
		wantErr(t, "Write", s.Write(i, b), p.write(i, b))
	default:
		b := mixed(byte(rnd.Intn(256)))
		i := rnd.Intn(len(p.durable))
		wantErr(t, "Write", s.Write(i, b), p.write(i, b))
	}
}

// P4.5: what was written ahead of a Barrier is never lost; behind a Revive each sector is as its last durable write, or as one of the pending ones left it, or torn, and at most one is torn by it.
func TestNeverLost(t *testing.T) {
	for seed := range int64(300) {
		rnd := rand.New(rand.NewSource(seed))
		s := made(t, 4)
		for range 12 {
			for range rnd.Intn(6) {
				write(t, s, rnd.Intn(4), mixed(byte(rnd.Intn(256))))
			}
			if s.Barrier() != api.OK {
				t.Fatal("a Barrier with the power on failed")
			}
			before := s.Image()
			may := [4][][]byte{}
			for i, b := range before {
				may[i] = append(may[i], b)
			}
			s.Arm(rnd.Intn(8))
			for range 6 {
				i, b := rnd.Intn(4), mixed(byte(rnd.Intn(256)))
				if !s.Off() {
					s.Write(i, b)
					may[i] = append(may[i], b)
				}
			}
			crash(t, s, rnd.Intn(9)-1, rnd.Intn(2) == 0)
			wantOneOf(t, before, s.Image(), may)
		}
	}
}

// wantOneOf wants each sector to be one of those that it may be, or torn, at most one of them anew.
func wantOneOf(t *testing.T, before, after [][]byte, may [4][][]byte) {
	t.Helper()
	torn := 0
	for i, b := range after {
		if len(b) == 0 && len(before[i]) > 0 {
			torn++
		}
		if len(b) > 0 && !slices.ContainsFunc(may[i], func(x []byte) bool { return bytes.Equal(x, b) }) {
			t.Errorf("sector %d is what was never written there: %v", i, b)
		}
		if len(may[i]) == 1 && !bytes.Equal(b, before[i]) {
			t.Errorf("sector %d was durable, and not written since, and is lost", i)
		}
	}
	if torn > 1 {
		t.Errorf("%d sectors are torn by one Revive", torn)
	}
}

// Many writes that pend at once, on all sectors, keep their order.
func TestManyPending(t *testing.T) {
	s := made(t, maxSectors)
	const many = 100_000
	for k := range many {
		write(t, s, k%maxSectors, mixed(byte(k/maxSectors)))
	}
	wantCounts(t, s, false, many, many, maxSectors)
	crash(t, s, 50*maxSectors+1, true)
	image := s.Image()
	for i, b := range image {
		want := mixed(49)
		if i == 0 {
			want = mixed(50)
		}
		if i == 1 {
			want = nil
		}
		if !bytes.Equal(b, want) {
			t.Fatalf("sector %d: %v; want %v", i, b, want)
		}
	}
}
