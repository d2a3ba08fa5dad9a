package cache_test

import (
	"slices"
	"strings"
	"testing"

	"lagoon/api"
)

// P16.1 to P16.3: the chapter's example.
func TestExample(t *testing.T) {
	x := newBox(t)
	x.loaded(5, 1, "a")
	x.committed(one(5, 2, "b"))
	wantErr(t, "Commit of the version 2 again", x.Commit(one(5, 2, "c")), errStale)
	x.committed(one(5, 3, "c"))
	x.wantReady()
	x.logged(one(5, 2, "b"))
	x.wantReady()
	x.logged(one(5, 3, "c"))
	x.wantReady(one(5, 3, "c")...)
	x.wantUnclean("another version", 5, 2)
	x.wantDirty(true)
	x.cleaned(5, 3)
	x.wantDirty(false)
}

// P16.2, R2, R4: what may be no record is refused ahead of what is stale, and changes nothing.
func TestCommitNoRecord(t *testing.T) {
	x := newBox(t, 1, 5, 6, 7, 32, 79)
	x.loaded(78, maxCount, "the last version")
	x.committed(one(7, 1, "dirty"))
	for what, u := range map[string][]api.Update{
		"no update":                nil,
		"an empty list":            {},
		"block 0":                  one(0, 1, "a"),
		"block -1":                 one(-1, 1, "a"),
		"block 80":                 one(80, 1, "a"),
		"a block far off":          one(1<<32+5, 1, "a"),
		"version 0":                one(5, 0, ""),
		"version 0 of an unknown":  one(9, 0, ""),
		"version -1":               one(5, -1, ""),
		"version 2^40 + 1":         one(78, maxCount+1, "a"),
		"39 bytes":                 one(5, 1, mixed(39, 1)),
		"39 bytes of an unknown":   one(9, 1, mixed(39, 1)),
		"one block twice":          of(1, 1, 5, 5),
		"one block twice, rising":  {{Block: 5, Ver: 1}, {Block: 5, Ver: 2}},
		"blocks that fall":         of(1, 1, 6, 5),
		"the last ones don't rise": of(1, 1, 1, 5, 6, 6),
		"the first ones don't":     of(1, 1, 6, 5, 32, 79),
		"a stale one that falls":   of(7, 1, 6, 5),
		"block 0 beside good ones": of(1, 1, 0, 5, 6),
		"block 80 beside them":     of(1, 1, 5, 6, 80),
		"80 updates":               slices.Repeat(one(5, 1, ""), 80),
		"very many":                slices.Repeat(one(5, 1, ""), 1<<20),
		"very many bytes":          one(5, 1, strings.Repeat("\x00", 1<<24)),
	} {
		x.wantRefused(what, u, errRange)
	}
	for _, n := range farOff() {
		x.wantRefused("a block far off", one(n, 1, "a"), errRange)
		if n < 1 || n > maxCount {
			x.wantRefused("a version far off", one(5, n, "a"), errRange)
		}
	}
	x.emptied([][]api.Update{one(7, 1, "dirty")}, one(7, 1, "dirty")...)
}

// P16.2: a record of just 540 bytes, and one that is a byte too long.
func TestCommitLength(t *testing.T) {
	for n := 520; n <= 545; n++ {
		x := newBox(t, 1, 2, 3, 4, 5, 6, 7, 8, 9, 10, 11, 12, 13, 14)
		u := wide(n)
		if lengthOf(u) != n {
			t.Fatalf("a record of %d bytes has %d", n, lengthOf(u))
		}
		if n > longest {
			x.wantRefused("a record that is too long", u, errRange)
			continue
		}
		x.committed(u)
		x.emptied([][]api.Update{u}, u...)
	}
	x := newBox(t)
	for b := 1; b <= lastHome; b++ {
		x.loaded(b, 0, "")
	}
	u := make([]api.Update, lastHome)
	for i := range u {
		u[i] = api.Update{Block: 1 + i, Ver: 1}
	}
	x.committed(u)
	x.emptied([][]api.Update{u}, u...)
}

// P16.2: a block that isn't known is stale, whatever the version.
func TestCommitUnknown(t *testing.T) {
	x := newBox(t, 5)
	for _, b := range []int{1, 4, 6, 32, 79} {
		for _, ver := range []int{1, 2, maxCount} {
			x.wantRefused("a block that isn't known", one(b, ver, "a"), errStale)
		}
	}
	x.wantRefused("one of two isn't known", of(1, 1, 4, 5), errStale)
	x.wantRefused("one of two isn't known", of(1, 1, 5, 6), errStale)
	x.committed(one(5, 1, "a"))
	x.emptied([][]api.Update{one(5, 1, "a")}, one(5, 1, "a")...)
}

// P16.2: the known version and one more is taken alone, of a clean block, a dirty one, one that is ready.
func TestCommitVersions(t *testing.T) {
	refuseOthers := func(x *box, b, ver int) {
		t.Helper()
		for _, v := range []int{1, 2, ver - 2, ver - 1, ver, ver + 2, ver + 3, 2*ver + 3, ver + 256 + 1, ver + 1<<32 + 1, maxCount} {
			if 1 <= v && v <= maxCount && v != ver+1 {
				x.wantRefused("another version", one(b, v, "x"), errStale)
			}
		}
	}
	for _, ver := range []int{0, 1, 2, 3, 127, 128, 1 << 31, 1 << 32, maxCount - 3} {
		x := newBox(t)
		x.loaded(5, ver, strings.Repeat("a", min(ver, 3)))
		refuseOthers(x, 5, ver)
		x.committed(one(5, ver+1, "b"))
		refuseOthers(x, 5, ver+1)
		x.logged(one(5, ver+1, "b"))
		refuseOthers(x, 5, ver+1)
		x.committed(one(5, ver+2, "c"))
		x.logged(one(5, ver+2, "c"))
		x.cleaned(5, ver+2)
		refuseOthers(x, 5, ver+2)
		x.committed(one(5, ver+3, ""))
		x.wantKnown(map[int]api.Block{5: value(ver+3, "")})
		x.emptied([][]api.Update{one(5, ver+3, "")}, one(5, ver+3, "")...)
	}
}

// P16.2, R8: a block at the version 2^40 takes no update any more.
func TestCommitLastVersion(t *testing.T) {
	x := newBox(t)
	x.loaded(5, maxCount-1, "a")
	x.wantRefused("two more", one(5, maxCount+1, "b"), errRange)
	x.committed(one(5, maxCount, "b"))
	x.wantKnown(map[int]api.Block{5: value(maxCount, "b")})
	for _, ver := range []int{1, maxCount - 1, maxCount} {
		x.wantRefused("at the last version", one(5, ver, "c"), errStale)
	}
	x.wantRefused("above the last version", one(5, maxCount+1, "c"), errRange)
	x.emptied([][]api.Update{one(5, maxCount, "b")}, one(5, maxCount, "b")...)
	x.wantRefused("at the last version, clean", one(5, maxCount, "c"), errStale)
	x.loaded(5, maxCount, "d")
	x.wantRefused("at the last version, loaded", one(5, maxCount, "c"), errStale)
}

// P16.2, R4: of several blocks one alone is stale, at each place: none is changed.
func TestCommitOneStale(t *testing.T) {
	blocks := []int{1, 5, 17, 32, 40, 79}
	for n := 1; n <= len(blocks); n++ {
		for i := range n {
			for what, spoil := range map[string]func(*api.Update){
				"the known version": func(u *api.Update) { u.Ver = 3 },
				"one less":          func(u *api.Update) { u.Ver = 2 },
				"two more":          func(u *api.Update) { u.Ver = 5 },
				"an unknown block":  func(u *api.Update) { u.Block-- },
			} {
				x := newBox(t)
				for k, b := range blocks {
					x.loaded(b, 3, mixed(b%39, k))
				}
				u := of(4, 1, blocks[:n]...)
				spoil(&u[i])
				want := errStale
				if u[0].Block == 0 {
					want = errRange
				}
				x.wantRefused(what, u, want)
				u = of(4, 2, blocks...)
				x.committed(u)
				x.emptied([][]api.Update{u}, u...)
			}
		}
	}
}

// P16.2: a record of several blocks, some of which are dirty already, some not.
func TestCommitSeveral(t *testing.T) {
	x := newBox(t, 2, 4, 6, 8)
	a, b, c := of(1, 1, 2, 6), of(1, 2, 4, 8), []api.Update{{Block: 2, Ver: 2, Data: "c"}, {Block: 4, Ver: 2}, {Block: 6, Ver: 2, Data: mixed(38, 1)}}
	x.committed(a, b, c)
	x.wantKnown(map[int]api.Block{2: value(2, "c"), 4: value(2, ""), 6: value(2, mixed(38, 1)), 8: value(1, b[1].Data)})
	x.wantDirty(true)
	x.wantReady()
	x.logged(a, b)
	x.wantReady(b[1])
	x.emptied([][]api.Update{c}, c[0], c[1], c[2], b[1])
}

// P16.2: First and Logged with no record, one and several, in the order of their commits.
func TestFirst(t *testing.T) {
	for n := range 6 {
		x := newBox(t, 5, 6)
		x.wantNoFirst()
		var records [][]api.Update
		for i := range n {
			records = append(records, of(1+i, i, 5, 6))
			x.committed(records[i])
			x.wantFirst(records[0])
			x.wantFirst(records[0])
		}
		x.logged(records...)
		x.wantNoFirst()
		x.still("Logged without a record", func() { x.Logged() })
	}
	x := newBox(t, 5)
	for i := range 300 {
		x.committed(of(1+i, i, 5))
		if i%3 > 0 {
			x.logged(of(1+i-i/3-1, i-i/3-1, 5))
		}
	}
	x.wantFirst(of(201, 200, 5))
}

// P16.2: First is as it was committed, whatever became of its blocks.
func TestFirstStays(t *testing.T) {
	x := newBox(t, 5, 6)
	a := of(1, 1, 5, 6)
	x.committed(a)
	x.wantFirst(a)
	x.committed(one(5, 2, "b"), one(6, 2, "c"))
	x.wantFirst(a)
	wantErr(t, "Commit of what is stale", x.Commit(one(5, 2, "d")), errStale)
	wantErr(t, "Load of what is dirty", x.Load(5, value(7, "e")), errBusy)
	x.Ready()
	x.Clean(5, 2)
	x.logged(a, one(5, 2, "b"), one(6, 2, "c"))
	x.wantNoFirst()
}
