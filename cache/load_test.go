package cache_test

import (
	"strings"
	"testing"

	"lagoon/api"
	"lagoon/cache"
)

// P16.1: a new cache knows nothing, and has nothing.
func TestNew(t *testing.T) {
	x := newBox(t)
	x.wantKnown(nil)
	x.wantNoFirst()
	x.wantReady()
	x.wantDirty(false)
	x.wantUnclean("a new one", 1, 0)
	x.wantRefused("a new one", one(1, 1, ""), errStale)
	x.Drop()
	x.wantKnown(nil)
}

// P16.1: Load of every home block, and of those that are none.
func TestLoadBlocks(t *testing.T) {
	for b := -5; b <= nBlocks+5; b++ {
		x := newBox(t)
		if b < 1 || b > lastHome {
			wantErr(t, "Load of a block that is none", x.Load(b, value(1, "a")), errRange)
			x.wantKnown(nil)
			continue
		}
		x.loaded(b, 3+b, mixed(b%39, b))
		x.wantKnown(map[int]api.Block{b: value(3+b, mixed(b%39, b))})
		x.wantDirty(false)
		x.wantNoFirst()
		x.wantReady()
	}
	for _, b := range append(farOff(), -1, 0, 80, 96, 127) {
		x := newBox(t, 1, 5, 79)
		x.still("a block that is none", func() { wantErr(t, "Load of a block that is none", x.Load(b, value(1, "a")), errRange) })
	}
}

// P16.1: Load of values: the versions and the bytes that may be, and those that may not.
func TestLoadValues(t *testing.T) {
	for _, ver := range append(farOff(), -1, 0, 1, 2, 127, 128, maxCount-1, maxCount, maxCount+1, maxCount+2, 1<<41) {
		for _, n := range []int{0, 1, 2, 37, 38, 39, 40, 44, 256, 256 + 38} {
			v := value(ver, mixed(n, ver))
			x := newBox(t, 1)
			if ver < 0 || ver > maxCount || n > 38 || ver == 0 && n > 0 {
				x.still("no value", func() { wantErr(t, "Load of no value", x.Load(5, v), errRange) })
				x.still("no value of a block that is known", func() { wantErr(t, "Load of no value", x.Load(1, v), errRange) })
				continue
			}
			wantErr(t, "Load of a value", x.Load(5, v), ok)
			x.wantKnown(map[int]api.Block{1: {}, 5: v})
		}
	}
	x := newBox(t)
	wantErr(t, "Load of very many bytes", x.Load(5, value(1, strings.Repeat("\x00", 1<<24))), errRange)
	wantErr(t, "Load of bytes with the version 0", x.Load(5, value(0, "\x00")), errRange)
	wantErr(t, "Load of bytes of any kind", x.Load(5, value(1, "\x00\xff\x80 \xc3\x28")), ok)
	x.wantKnown(map[int]api.Block{5: value(1, "\x00\xff\x80 \xc3\x28")})
}

// P16.1: Load of a block that is known and not dirty, of the same, of higher and of lower versions.
func TestLoadAgain(t *testing.T) {
	x := newBox(t)
	x.loaded(6, 4, "other")
	for _, v := range []api.Block{value(5, "a"), value(5, "a"), value(5, "b"), value(9, "c"), value(2, "d"), value(maxCount, ""), value(0, ""), value(1, "e")} {
		x.loaded(5, v.Ver, v.Data)
		x.wantKnown(map[int]api.Block{5: v, 6: value(4, "other")})
	}
	x.committed(one(5, 2, "f"))
	x.logged(one(5, 2, "f"))
	x.cleaned(5, 2)
	x.loaded(5, 1, "lower than what was cleaned")
	x.wantKnown(map[int]api.Block{5: value(1, "lower than what was cleaned"), 6: value(4, "other")})
	x.committed(one(5, 2, "g"))
	x.emptied([][]api.Update{one(5, 2, "g")}, one(5, 2, "g")...)
}

// P16.1, R2, R4: a block that is dirty isn't loaded, whether a record brings it or not; what is amiss with the value is told first.
func TestLoadDirty(t *testing.T) {
	x := newBox(t, 5, 6)
	x.committed(one(5, 1, "a"))
	for range 2 {
		for _, v := range []api.Block{value(1, "a"), value(0, ""), value(2, "b"), value(maxCount, mixed(38, 1))} {
			x.still("a dirty block", func() { wantErr(t, "Load of a dirty block", x.Load(5, v), errBusy) })
		}
		for _, v := range []api.Block{value(-1, ""), value(0, "a"), value(1, mixed(39, 1)), value(maxCount+1, "")} {
			x.still("a dirty block, no value", func() { wantErr(t, "Load of no value to a dirty block", x.Load(5, v), errRange) })
		}
		x.loaded(6, 7, "the other one may be")
		x.Logged()
	}
	x.wantReady(one(5, 1, "a")...)
	x.cleaned(5, 1)
	x.loaded(5, 4, "b")
	x.wantKnown(map[int]api.Block{5: value(4, "b"), 6: value(7, "the other one may be")})
}

// P16.1: all home blocks at once.
func TestDiskAll(t *testing.T) {
	x := newBox(t)
	want := map[int]api.Block{}
	for i := range lastHome {
		b := 1 + i*30%lastHome
		want[b] = value(b, mixed(b%39, b))
		x.loaded(b, b, mixed(b%39, b))
		x.wantKnown(want)
	}
	if len(want) != lastHome {
		t.Fatalf("there are %d blocks only", len(want))
	}
}

// P16.1: Disk of one with some blocks, after a Commit and after a Drop.
func TestDisk(t *testing.T) {
	x := newBox(t)
	x.loaded(1, 3, "a")
	x.loaded(79, 4, "b")
	x.loaded(40, 0, "")
	x.wantKnown(map[int]api.Block{1: value(3, "a"), 40: {}, 79: value(4, "b")})
	x.committed([]api.Update{{Block: 40, Ver: 1, Data: "c"}, {Block: 79, Ver: 5}})
	x.wantKnown(map[int]api.Block{1: value(3, "a"), 40: value(1, "c"), 79: value(5, "")})
	x.Logged()
	x.cleaned(79, 5)
	x.wantKnown(map[int]api.Block{1: value(3, "a"), 40: value(1, "c"), 79: value(5, "")})
	x.Drop()
	x.wantKnown(nil)
}

// P16.1: Drop of one with dirty blocks and records: nothing is left of them, and anything may be loaded behind it.
func TestDrop(t *testing.T) {
	x := newBox(t, 5, 6, 7)
	x.committed(of(1, 1, 5, 6), one(5, 2, "b"), one(7, 1, "c"))
	x.logged(of(1, 1, 5, 6))
	x.wantReady(of(1, 1, 6)...)
	x.Drop()
	x.wantKnown(nil)
	x.wantNoFirst()
	x.wantReady()
	x.wantDirty(false)
	for _, b := range []int{5, 6, 7} {
		x.wantUnclean("what was dropped", b, 1)
		x.wantUnclean("what was dropped", b, 2)
		x.wantUnclean("what was dropped", b, 0)
		x.wantRefused("what was dropped", one(b, 2, ""), errStale)
		x.wantRefused("what was dropped", one(b, 1, ""), errStale)
	}
	x.Drop()
	x.loaded(5, 0, "")
	x.loaded(6, 1, "other bytes")
	x.wantKnown(map[int]api.Block{5: {}, 6: value(1, "other bytes")})
	x.wantDirty(false)
	x.wantReady()
	x.committed(one(5, 1, "d"), one(6, 2, "e"))
	x.wantReady()
	x.logged(one(5, 1, "d"))
	x.wantReady(one(5, 1, "d")...)
	x.emptied([][]api.Update{one(6, 2, "e")}, one(5, 1, "d")[0], one(6, 2, "e")[0])
}

// P16.1 to P16.3, R1 to R3: every call of the nil Cache; it is told first.
func TestNilCache(t *testing.T) {
	var c *cache.Cache
	x := &box{c, t}
	for range 2 {
		for _, b := range append(farOff(), -1, 0, 1, 5, 79, 80) {
			wantErr(t, "Load", c.Load(b, value(1, "a")), errNil)
			wantErr(t, "Load of no value", c.Load(b, value(-1, mixed(39, 1))), errNil)
			wantErr(t, "Commit", c.Commit(one(b, 1, "a")), errNil)
			if c.Clean(b, 1) || c.Clean(b, 0) {
				t.Error("Clean: true")
			}
		}
		wantErr(t, "Commit of nothing", c.Commit(nil), errNil)
		wantErr(t, "Commit of what rises", c.Commit(of(1, 1, 5, 6)), errNil)
		x.wantKnown(nil)
		x.wantNoFirst()
		x.wantReady()
		x.wantDirty(false)
		c.Drop()
	}
}
