package cache_test

import (
	"slices"
	"testing"

	"lagoon/api"
)

// P16.3: a block that records bring once, twice and no longer, and after each Logged.
func TestReadyBrought(t *testing.T) {
	for n := 1; n <= 5; n++ {
		x := newBox(t, 5, 6)
		var records [][]api.Update
		for i := range n {
			records = append(records, one(5, 1+i, mixed(i, i)), one(6, 1+i, ""))
		}
		x.committed(records...)
		last := one(5, n, mixed(n-1, n-1))[0]
		for i, u := range records {
			x.wantReady()
			x.wantDirty(true)
			x.wantUnclean("a record brings it", 5, n)
			x.logged(u)
			if i == len(records)-2 {
				x.wantReady(last)
				break
			}
		}
		x.logged(records[len(records)-1])
		x.wantReady(last, one(6, n, "")[0])
	}
}

// P16.3: several dirty blocks, rising, whatever the order in which they became dirty.
func TestReadyRises(t *testing.T) {
	x := newBox(t)
	var want []api.Update
	for b := 1; b <= lastHome; b++ {
		x.loaded(b, b, "")
		want = append(want, api.Update{Block: b, Ver: b + 1, Data: mixed(b%5, b)})
	}
	for i := range lastHome {
		u := want[i*50%lastHome]
		x.committed([]api.Update{u})
		x.logged([]api.Update{u})
	}
	for range 30 {
		x.wantReady(want...)
	}
	for i := range lastHome {
		b := 1 + i*41%lastHome
		x.cleaned(b, b+1)
		want = slices.DeleteFunc(want, func(u api.Update) bool { return u.Block == b })
		x.wantReady(want...)
		x.wantDirty(len(want) > 0)
	}
}

// P16.3: what is ready is as it is known, not as a record of before had it; what is only loaded isn't ready.
func TestReadyAsKnown(t *testing.T) {
	x := newBox(t)
	for _, b := range []int{1, 5, 6, 79} {
		x.loaded(b, 4, "loaded")
	}
	x.wantReady()
	x.committed([]api.Update{{Block: 5, Ver: 5, Data: "a"}, {Block: 79, Ver: 5}}, one(5, 6, "b"))
	x.Logged()
	x.wantReady(one(79, 5, "")...)
	x.Logged()
	x.wantReady(one(5, 6, "b")[0], one(79, 5, "")[0])
	x.committed(one(5, 7, "c"))
	x.wantReady(one(79, 5, "")...)
	x.Logged()
	x.wantReady(one(5, 7, "c")[0], one(79, 5, "")[0])
}

// P16.3: Clean of what isn't known, isn't dirty, is brought by a record, has another version, of blocks that are none, and twice.
func TestClean(t *testing.T) {
	x := newBox(t)
	x.wantUnclean("it isn't known", 5, 0)
	x.loaded(5, 3, "a")
	x.loaded(6, 3, "a")
	for _, ver := range []int{0, 2, 3, 4} {
		x.wantUnclean("it isn't dirty", 5, ver)
	}
	x.committed(one(5, 4, "b"), one(5, 5, "c"))
	for range 2 {
		for ver := range 8 {
			x.wantUnclean("a record brings it", 5, ver)
		}
		x.Logged()
	}
	for _, ver := range append(farOff(), -1, 0, 3, 4, 6, 5+256, 5+1<<32, -5) {
		x.wantUnclean("another version", 5, ver)
	}
	for _, b := range append(farOff(), -1, 0, 80, 127, -5, 5+128) {
		for _, ver := range []int{0, 5} {
			x.wantUnclean("a block that is none", b, ver)
		}
	}
	for _, b := range []int{1, 4, 6, 79} {
		for _, ver := range []int{0, 3, 5} {
			x.wantUnclean("another block", b, ver)
		}
	}
	x.wantDirty(true)
	x.wantReady(one(5, 5, "c")...)
	x.cleaned(5, 5)
	x.wantDirty(false)
	x.wantReady()
	x.wantKnown(map[int]api.Block{5: value(5, "c"), 6: value(3, "a")})
	x.wantUnclean("twice", 5, 5)
	x.loaded(5, 5, "c")
	x.wantUnclean("loaded behind it", 5, 5)
}

// P16.3: Clean changes the one block alone.
func TestCleanOthers(t *testing.T) {
	x := newBox(t, 1, 5, 6, 79)
	u := of(1, 1, 1, 5, 6, 79)
	x.committed(u)
	x.logged(u)
	x.cleaned(6, 1)
	x.wantReady(u[0], u[1], u[3])
	x.committed(one(5, 2, "b"), one(6, 2, "c"))
	x.wantReady(u[0], u[3])
	x.cleaned(79, 1)
	x.wantReady(u[0])
	x.logged(one(5, 2, "b"))
	x.wantReady(u[0], one(5, 2, "b")[0])
	x.wantUnclean("a record brings it", 6, 2)
	x.wantUnclean("the version of before", 5, 1)
	x.cleaned(5, 2)
	x.logged(one(6, 2, "c"))
	x.wantReady(u[0], one(6, 2, "c")[0])
}

// P16.3: Dirty after each call.
func TestDirty(t *testing.T) {
	x := newBox(t)
	x.wantDirty(false)
	x.loaded(5, 1, "a")
	x.loaded(6, 1, "a")
	x.wantDirty(false)
	x.wantRefused("what is stale", one(5, 1, "b"), errStale)
	x.wantDirty(false)
	x.committed(one(5, 2, "b"))
	x.wantDirty(true)
	x.loaded(6, 2, "b")
	x.wantDirty(true)
	x.Logged()
	x.wantDirty(true)
	x.Clean(5, 1)
	x.wantDirty(true)
	x.committed(one(6, 3, "c"))
	x.cleaned(5, 2)
	x.wantDirty(true)
	x.Logged()
	x.wantDirty(true)
	x.cleaned(6, 3)
	x.wantDirty(false)
	x.committed(of(4, 1, 6))
	x.wantDirty(true)
	x.Drop()
	x.wantDirty(false)
	for b := 1; b <= lastHome; b++ {
		x.loaded(b, 0, "")
		x.committed(one(b, 1, ""))
		x.wantDirty(true)
		x.Logged()
		x.cleaned(b, 1)
		x.wantDirty(false)
	}
}
