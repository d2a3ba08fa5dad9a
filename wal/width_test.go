package wal_test

import (
	"slices"
	"strings"
	"testing"

	"lagoon/api"
	"lagoon/wal"
)

// wantWidth wants updates to have so many frames; 0, if they may be no record. Append says the same of them.
func wantWidth(t *testing.T, what string, u []api.Update, want int) {
	t.Helper()
	wantErrno := ok
	if want == 0 {
		wantErrno = errRange
	}
	if n, err := wal.Width(u); n != want || err != wantErrno {
		t.Errorf("%s: Width: %d, %d; want %d, %d", what, n, err, want, wantErrno)
	}
	if got := plainWidth(u); got != want {
		t.Errorf("%s: the plain width is %d; want %d", what, got, want)
	}
}

// P15.1: the chapter's example, and other records written down.
func TestWidthRows(t *testing.T) {
	wantWidth(t, "one of 38 bytes", one(1, 1, mixed(38, 1)), 2)
	wantWidth(t, "one of no bytes", one(5, 1, ""), 1)
	wantWidth(t, "the example's", one(5, 1, "a"), 1)
	wantWidth(t, "36 bytes in all", one(5, 1, mixed(28, 1)), 1)
	wantWidth(t, "37 bytes in all", one(5, 1, mixed(29, 1)), 2)
	wantWidth(t, "36 bytes in all, the version of two", one(5, 128, mixed(27, 1)), 1)
	wantWidth(t, "37 bytes in all, the version of two", one(5, 128, mixed(28, 1)), 2)
	wantWidth(t, "36 bytes in all, the version of six", one(79, maxCount, mixed(23, 1)), 1)
	wantWidth(t, "37 bytes in all, the version of six", one(79, maxCount, mixed(24, 1)), 2)
	wantWidth(t, "two", []api.Update{{Block: 1, Ver: 1}, {Block: 2, Ver: 1}}, 1)
	wantWidth(t, "no update", nil, 0)
	wantWidth(t, "an empty list", []api.Update{}, 0)
}

// P15.1: a record of each length: up to 540 bytes each frame has 36, above that there is none.
func TestWidthLengths(t *testing.T) {
	for n := 8; n <= 900; n++ {
		u := sized(n, n)
		if len(bytesOf(u)) != n {
			t.Fatalf("a record of %d bytes has %d", n, len(bytesOf(u)))
		}
		want := (n + 35) / 36
		if n > longest {
			want = 0
		}
		wantWidth(t, "a record of some length", u, want)
	}
	u := sized(538, 3)
	for i, want := range []int{15, 15, 15, 0, 0} {
		wantWidth(t, "538 bytes, and a byte more for each version", u, want)
		u[i].Ver = 128
	}
}

// P15.1: each number of updates: blocks 1 to 79, one more each.
func TestWidthCounts(t *testing.T) {
	var u []api.Update
	for b := 1; b <= 79; b++ {
		u = append(u, api.Update{Block: b, Ver: 1})
		wantWidth(t, "updates without bytes", u, (5+3*b+35)/36)
	}
	for _, b := range []int{0, 78, 79, 80} {
		wantWidth(t, "80 updates", append(slices.Clone(u), api.Update{Block: b, Ver: 1}), 0)
	}
	wantWidth(t, "very many updates", make([]api.Update, 1<<20), 0)
	wantWidth(t, "very many of one kind", slices.Repeat(one(5, 1, "a"), 1<<20), 0)
	for i := range u {
		u[i].Data = mixed(4, i)
	}
	wantWidth(t, "79 updates of four bytes", u, 0)
	wantWidth(t, "77 updates of four bytes", u[:77], 0)
	wantWidth(t, "76 updates of four bytes", u[:76], 15)
}

// P15.1: which updates may be: each block, version and number of bytes.
func TestWidthUpdates(t *testing.T) {
	for _, b := range append(farOff(), -1, 0, 1, 2, 17, 31, 32, 78, 79, 80, 81, 96, 127, 128, 129, 256+5, 1<<32+5) {
		for _, ver := range append(farOff(), -1, 0, 1, 2, 127, 128, maxCount-1, maxCount, maxCount+1, maxCount+2, 1<<41) {
			for _, n := range []int{0, 1, 2, 30, 37, 38, 39, 40, 44, 256, 300} {
				u := one(b, ver, mixed(n, ver))
				want := (len(bytesOf(u)) + 35) / 36
				if b < 1 || b > 79 || ver < 1 || ver > maxCount || n > 38 {
					want = 0
				}
				wantWidth(t, "one update", u, want)
			}
		}
	}
	wantWidth(t, "very many bytes", one(5, 1, strings.Repeat("\x00", 1<<24)), 0)
}

// P15.1: one update of several that may not be, at each place.
func TestWidthOneAmiss(t *testing.T) {
	for n := 1; n <= 6; n++ {
		for i := range n {
			for what, spoil := range map[string]func(*api.Update){
				"block 0":         func(x *api.Update) { x.Block = 0 },
				"block -1":        func(x *api.Update) { x.Block = -1 },
				"block 80":        func(x *api.Update) { x.Block = 80 },
				"a far block":     func(x *api.Update) { x.Block = 1 << 62 },
				"version 0":       func(x *api.Update) { x.Ver = 0 },
				"version -1":      func(x *api.Update) { x.Ver = -1 },
				"version 2^40+1":  func(x *api.Update) { x.Ver = maxCount + 1 },
				"39 bytes":        func(x *api.Update) { x.Data = mixed(39, 1) },
				"the zero update": func(x *api.Update) { *x = api.Update{} },
			} {
				u := sized(5+3*n+38*(n-1)+1, 7)
				wantWidth(t, "an update of several", u, widthOf(u))
				spoil(&u[i])
				wantWidth(t, what, u, 0)
			}
		}
	}
}

// P15.1: blocks that don't rise, and such that do; versions and bytes needn't.
func TestWidthRise(t *testing.T) {
	of := func(blocks ...int) []api.Update {
		var u []api.Update
		for i, b := range blocks {
			u = append(u, api.Update{Block: b, Ver: 100 - i, Data: mixed(5-i, i)})
		}
		return u
	}
	for _, blocks := range [][]int{{1, 2}, {1, 79}, {78, 79}, {5, 6, 7}, {1, 40, 79}, {2, 3, 5, 9}} {
		wantWidth(t, "rising blocks", of(blocks...), widthOf(of(blocks...)))
	}
	for _, blocks := range [][]int{{1, 1}, {2, 1}, {79, 1}, {79, 79}, {5, 5, 6}, {5, 6, 6}, {6, 5, 7}, {5, 7, 6}, {7, 5, 6}, {6, 7, 5}, {5, 6, 5}, {7, 6, 5}, {1, 2, 3, 3}, {1, 2, 4, 3}, {2, 1, 3, 4}, {1, 3, 2, 4}} {
		wantWidth(t, "blocks that don't rise", of(blocks...), 0)
	}
}
