package cells_test

import (
	"bytes"
	"fmt"
	"math/rand"
	"slices"
	"testing"

	"lagoon/api"
	"lagoon/cells"
)

// beginnings are images of stores of three cells that have come about in several ways.
func beginnings(t *testing.T) [][][]byte {
	t.Helper()
	c, s := fresh(t, 3)
	l := [][][]byte{s.Image()}
	put(t, c, 0, "a")
	put(t, c, 1, "b", mixed(51, 1))
	l = append(l, s.Image())
	put(t, c, 2, "", "c", "")
	l = append(l, s.Image())
	s.Arm(0)
	c.Put(1, "never there")
	s.Revive(0, true)
	l = append(l, s.Image())
	c = opened(t, s, 3)
	s.Arm(1)
	c.Put(0, mixed(51, 2))
	c.Put(2, "there")
	s.Revive(1, true)
	l = append(l, s.Image())
	return append(l, [][]byte{
		nil, nil,
		valued(1<<32-1, "x"), valued(1<<32-1, "y"),
		valued(maxCount-2, "z"), valued(maxCount-1, mixed(51, 3)),
	})
}

// behind is the values behind a Put that went well.
func behind(values []api.Cell, i int, text string) []api.Cell {
	values = slices.Clone(values)
	values[i] = api.Cell{Seq: values[i].Seq + 1, Data: text}
	return values
}

// valuesOf is what cells tell.
func valuesOf(c *cells.Cells) []api.Cell {
	var l []api.Cell
	for i := range c.Len() {
		l = append(l, c.Get(i))
	}
	return l
}

// P6.4, P6.3: the power fails at the write of a Put into each cell, and is revived in every way: the cell has its old value or the new one, all others are as they were, and the cells go on.
func TestPowerFails(t *testing.T) {
	for k, image := range beginnings(t) {
		for i := range 3 {
			for _, text := range []string{"", "x", mixed(51, 9), opened(t, from(t, image), 3).Get(i).Data} {
				for keep := -1; keep <= 3; keep++ {
					failAt(t, image, i, text, keep, false)
					failAt(t, image, i, text, keep, true)
				}
			}
			if t.Failed() {
				t.Fatalf("beginning %d, cell %d", k, i)
			}
		}
	}
}

// failAt lets the power fail at the write of a Put. Had it failed at the Barrier behind that, the same write would be pending: no later call could tell the two apart.
func failAt(t *testing.T, image [][]byte, i int, text string, keep int, torn bool) {
	t.Helper()
	s := from(t, image)
	c := opened(t, s, 3)
	before := valuesOf(c)
	s.Arm(0)
	wantErr(t, "Put with the power armed", c.Put(i, text), errPower)
	if s.Writes() != 1 || s.Pending() != 1 {
		t.Errorf("%d writes, %d pending; want 1, 1", s.Writes(), s.Pending())
	}
	wantValues(t, c, before...)
	s.Revive(keep, torn)
	revived := s.Image()
	wantDead(t, c, before)
	wantStill(t, s, revived, 1)
	want := before
	if keep > 0 {
		want = behind(before, i, text)
	}
	again := wantOpened(t, s, want...)
	wantStill(t, s, revived, 1)
	for n := range 3 {
		for _, on := range []string{"on", "", mixed(51, n)} {
			if again.Get(n).Seq == maxCount {
				wantErr(t, "Put into a worn cell", again.Put(n, on), errWorn)
				continue
			}
			put(t, again, n, on)
			want = behind(want, n, on)
			wantValues(t, again, want...)
			wantOpened(t, s, want...)
		}
	}
}

// wantDead wants cells to be dead: every Put answers ErrPower, ahead of all else but nil (R2), and they tell what they told.
func wantDead(t *testing.T, c *cells.Cells, values []api.Cell) {
	t.Helper()
	for _, i := range []int{-1, 0, 1, c.Len() - 1, c.Len(), 256} {
		for _, n := range []int{0, 51, 52, 1000} {
			wantErr(t, fmt.Sprintf("Put(%d) of %d bytes into dead cells", i, n), c.Put(i, mixed(n, 1)), 13)
		}
	}
	wantValues(t, c, values...)
}

// P6.4: what the write has made of its sector: the new value, nothing, or a torn one; no other sector changes.
func TestPowerFailsSectors(t *testing.T) {
	for _, image := range beginnings(t) {
		for i := range 3 {
			for keep := range 2 {
				for _, torn := range []bool{false, true} {
					s := from(t, image)
					c := opened(t, s, 3)
					p, _ := open(from(t, image), 3)
					p.put(i, "new")
					s.Arm(0)
					wantErr(t, "Put with the power armed", c.Put(i, "new"), errPower)
					s.Revive(keep, torn)
					want := image
					for k, b := range p.s.Image() {
						if bytes.Equal(b, image[k]) || keep == 0 && !torn {
							continue
						}
						want = with(want, k, b)
						if keep == 0 {
							want = with(want, k, nil)
						}
					}
					wantImage(t, s, want)
				}
			}
		}
	}
}

// P6.4: others' writes are pending on the store when the power fails: however many of them are kept.
func TestPowerFailsBehindOthers(t *testing.T) {
	image := [][]byte{valued(4, "a"), valued(5, "b"), valued(2, "c"), nil, make([]byte, 64), make([]byte, 64), make([]byte, 64)}
	for i := range 3 {
		for keep := range 6 {
			for _, torn := range []bool{false, true} {
				s := from(t, image)
				c := opened(t, s, 3)
				before := valuesOf(c)
				for range 3 {
					s.Write(6, bytes.Repeat([]byte{byte(keep)}, 64))
				}
				s.Arm(0)
				wantErr(t, "Put with the power armed", c.Put(i, "new"), errPower)
				if s.Pending() != 4 {
					t.Errorf("%d pending; want 4", s.Pending())
				}
				s.Revive(keep, torn)
				want := before
				if keep > 3 {
					want = behind(before, i, "new")
				}
				wantDead(t, c, before)
				wantOpened(t, s, want...)
			}
		}
	}
}

// P6.3, P6.4: the power fails in a later Put: those ahead of it are there.
func TestPowerFailsLater(t *testing.T) {
	texts := []string{"a", "bb", "", mixed(51, 1), "e", "f"}
	for k := range len(texts) {
		for keep := range 3 {
			for _, torn := range []bool{false, true} {
				c, s := fresh(t, 2)
				want := make([]api.Cell, 2)
				s.Arm(k)
				for n, text := range texts {
					if n > k {
						wantErr(t, "Put into dead cells", c.Put(n%2, text), errPower)
						continue
					}
					if n == k {
						wantErr(t, "Put with the power armed", c.Put(n%2, text), errPower)
						continue
					}
					put(t, c, n%2, text)
					want = behind(want, n%2, text)
				}
				wantDead(t, c, want)
				s.Revive(keep, torn)
				wantDead(t, c, want)
				if keep > 0 {
					want = behind(want, k%2, texts[k])
				}
				wantOpened(t, s, want...)
			}
		}
	}
}

// P6.4: the power fails between the calls: nothing is lost, and the cells go on, for no call on the store has answered ErrPower to them.
func TestPowerFailsBetween(t *testing.T) {
	c, s := fresh(t, 2)
	put(t, c, 0, "a", "b")
	put(t, c, 1, "c")
	want := []api.Cell{{Seq: 2, Data: "b"}, {Seq: 1, Data: "c"}}
	s.Fail()
	wantValues(t, c, want...)
	wantErr(t, "Put of 52 bytes with the power off", c.Put(0, mixed(52, 1)), errRange)
	wantErr(t, "Put into no cell with the power off", c.Put(2, ""), errRange)
	s.Revive(0, true)
	wantOpened(t, s, want...)
	put(t, c, 0, "goes on")
	wantOpened(t, s, api.Cell{Seq: 3, Data: "goes on"}, api.Cell{Seq: 1, Data: "c"})
}

// P6.3: with the power off a Put answers ErrPower, writes nothing, and the cells are dead.
func TestPowerOff(t *testing.T) {
	for i := range 2 {
		c, s := fresh(t, 2)
		put(t, c, 0, "a")
		image := s.Image()
		s.Fail()
		wantErr(t, "Put with the power off", c.Put(i, "b"), 13)
		wantDead(t, c, []api.Cell{{Seq: 1, Data: "a"}, none})
		wantStill(t, s, image, 1)
		s.Revive(1, true)
		wantDead(t, c, []api.Cell{{Seq: 1, Data: "a"}, none})
		wantStill(t, s, image, 1)
		wantOpened(t, s, api.Cell{Seq: 1, Data: "a"}, none)
	}
}

// Dead cells stay dead, whatever others do on their store, and whatever is opened there again.
func TestDead(t *testing.T) {
	image := [][]byte{valued(1, "a"), nil, valued(maxCount, "worn"), nil}
	s := from(t, image)
	c := opened(t, s, 2)
	values := valuesOf(c)
	s.Arm(0)
	wantErr(t, "Put with the power armed", c.Put(0, "b"), 13)
	wantDead(t, c, values)
	s.Revive(1, false)
	again := wantOpened(t, s, api.Cell{Seq: 2, Data: "b"}, api.Cell{Seq: maxCount, Data: "worn"})
	put(t, again, 0, "c", "d")
	wantDead(t, c, values)
	wantStill(t, s, [][]byte{valued(3, "c"), valued(4, "d"), valued(maxCount, "worn"), nil}, 3)
	wantValues(t, again, api.Cell{Seq: 4, Data: "d"}, api.Cell{Seq: maxCount, Data: "worn"})
}

// P6.4: the power fails again and again, on what was revived before, and each time every cell has its last value, or the one of the call that failed.
func TestPowerFailsOften(t *testing.T) {
	for seed := range int64(60) {
		rnd := rand.New(rand.NewSource(seed))
		c, s := fresh(t, 4)
		now := valuesOf(c)
		for step := range 100 {
			s.Arm(rnd.Intn(6))
			brought := now
			for range 8 {
				i, text := rnd.Intn(4), mixed(rnd.Intn(52), rnd.Intn(256))
				brought = behind(now, i, text)
				if c.Put(i, text) != ok {
					break
				}
				now = brought
			}
			s.Fail()
			s.Revive(rnd.Intn(3)-1, rnd.Intn(2) == 0)
			c = opened(t, s, 4)
			told := valuesOf(c)
			if !slices.Equal(told, now) && !slices.Equal(told, brought) {
				t.Fatalf("seed %d, step %d: %v; want %v or %v", seed, step, told, now, brought)
			}
			now = told
		}
	}
}
