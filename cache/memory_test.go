package cache_test

import (
	"fmt"
	"slices"
	"sync"
	"testing"

	"lagoon/api"
)

// roomy is updates with spare room behind their end, in which something stands.
func roomy(u []api.Update) []api.Update {
	spare := []api.Update{{Block: 79, Ver: 1, Data: "spare"}, {Block: -1}}
	return slices.Concat(u, spare)[: len(u) : len(u)+len(spare)]
}

// over writes over a list, to the end of its spare room.
func over(u []api.Update, x int) {
	u = u[:cap(u)]
	for i := range u {
		u[i] = api.Update{Block: x, Ver: x, Data: "over"}
	}
}

// isOver tells whether a list is written over by x, to the end of its spare room.
func isOver(u []api.Update, x int) bool {
	u = u[:cap(u)]
	return !slices.ContainsFunc(u, func(y api.Update) bool { return y != api.Update{Block: x, Ver: x, Data: "over"} })
}

// R5: updates that are handed in stay as they are, the room behind their end too, whatever is answered and whatever comes behind it.
func TestHandedInStays(t *testing.T) {
	x := newBox(t)
	for b := 1; b <= 14; b++ {
		x.loaded(b, 0, "")
	}
	for _, u := range [][]api.Update{nil, {}, one(5, 1, "a"), of(1, 1, 6, 7, 8), of(1, 1, 8, 9), of(2, 1, 5, 6), of(1, 1, 79), of(1, 1, 10, 9), one(5, 3, mixed(39, 1)), wide(541), one(0, 1, ""), of(3, 1, 5, 6)} {
		u = roomy(u)
		was := fmt.Sprintf("%d %#v", len(u), u[:cap(u)])
		err := x.Commit(u)
		x.committed(one(1, 1+versionOf(x, 1), "behind it"))
		x.Ready()
		x.First()
		x.Logged()
		x.Clean(5, 2)
		if is := fmt.Sprintf("%d %#v", len(u), u[:cap(u)]); is != was {
			t.Errorf("Commit %d: what was handed in is %s; it was %s", err, is, was)
		}
	}
}

// versionOf is the version of a block that is known.
func versionOf(x *box, b int) int {
	d, _ := x.Disk()
	return d[b].Ver
}

// R5: updates that are handed in aren't kept: they are written over, the room behind their end too, and the cache is what it was.
func TestHandedInIsntKept(t *testing.T) {
	x := newBox(t, 5, 6, 7)
	var records [][]api.Update
	for i := range 5 {
		u := roomy(of(1+i, i, 5, 6, 7)[i%2 : 3])
		for k := range u {
			u[k].Ver = 1 + versionOf(x, u[k].Block)
		}
		records = append(records, slices.Clone(u))
		wantErr(t, "Commit", x.Commit(u), ok)
		x.still("what was handed in is written over", func() { over(u, 71) })
	}
	u := roomy(of(9, 1, 5, 6))
	wantErr(t, "Commit of what is stale", x.Commit(u), errStale)
	x.still("what was refused is written over", func() { over(u, 71) })
	x.emptied(records, records[4]...)
}

// R6: what First and Ready answer is new memory, spare room too: two answers of each are written over, with nothing to be told of it, neither of the cache nor of the other one.
func TestAnsweredApart(t *testing.T) {
	x := newBox(t, 1, 5, 6, 7, 79)
	ready := of(1, 1, 1, 7, 79)
	x.committed(ready)
	x.logged(ready)
	a, b := of(1, 2, 5, 6), of(2, 3, 5, 6)
	x.committed(a, b)
	var lists [][]api.Update
	x.still("what was answered is written over", func() {
		for i := range 3 {
			u, _ := x.First()
			lists = append(lists, u, x.Ready())
			over(lists[2*i], 10+2*i)
			over(lists[2*i+1], 10+2*i+1)
		}
	})
	x.logged(a)
	u, _ := x.First()
	over(u, 70)
	x.wantFirst(b)
	for i, u := range lists {
		if len(u) == 0 || !isOver(u, 10+i) {
			t.Errorf("list %d shares memory with another one: %s", i, shown(u))
		}
	}
	x.logged(b)
	for i, u := range lists {
		if !isOver(u, 10+i) {
			t.Errorf("list %d was changed by a later call: %s", i, shown(u))
		}
	}
	x.emptied(nil, ready[0], b[0], b[1], ready[1], ready[2])
}

// R6: the disk that is answered is a value of its own: it is written over, and the cache is what it was.
func TestDiskApart(t *testing.T) {
	x := newBox(t, 5, 6)
	x.committed(one(5, 1, "a"))
	x.still("the disk is written over", func() {
		d, has := x.Disk()
		e, is := x.Disk()
		for b := range nBlocks {
			d[b], has[b] = value(9, "over"), !has[b]
		}
		if e[5] != value(1, "a") || !is[6] || is[7] {
			t.Error("two disks share memory")
		}
	})
	d, has := x.Disk()
	x.loaded(7, 1, "b")
	x.committed(one(6, 1, "c"))
	x.Drop()
	if d[5] != value(1, "a") || d[6] != value(0, "") || !has[5] || !has[6] || has[7] {
		t.Error("a disk was changed by a later call")
	}
}

// R7: caches don't touch each other, though the same lists are handed in to them.
func TestCachesApart(t *testing.T) {
	x, y, z := newBox(t, 5, 6), newBox(t, 5, 6), newBox(t)
	u, v := of(1, 1, 5, 6), of(2, 2, 5, 6)
	z.still("others have it done", func() {
		y.still("another one has it done", func() {
			x.committed(u, v)
			x.logged(u)
			x.loaded(7, 3, "a")
		})
		y.committed(u)
	})
	x.still("another one has it done", func() {
		y.logged(u)
		y.wantReady(u...)
		y.cleaned(5, 1)
		y.loaded(5, 7, "b")
		y.Drop()
		z.Drop()
		z.loaded(5, 9, "c")
	})
	x.emptied([][]api.Update{v}, v...)
	z.wantKnown(map[int]api.Block{5: value(9, "c")})
	y.wantKnown(nil)
}

// R7: caches that are used at many places at once, and handed the same lists, are what they are alone.
func TestAtOnce(t *testing.T) {
	var group sync.WaitGroup
	var records [][]api.Update
	for i := range 50 {
		records = append(records, of(1+i, i, 5, 6, 7))
	}
	for n := range 8 {
		group.Go(func() {
			x := newBox(t, 5, 6, 7)
			for i, u := range records {
				x.committed(u)
				if i%(n+1) < n {
					continue
				}
				for range n + 1 {
					u, _ := x.First()
					x.logged(u)
				}
				x.wantReady(u...)
			}
			x.Drop()
			x.wantKnown(nil)
		})
	}
	group.Wait()
}
