package chain_test

import (
	"fmt"
	"math"
	"slices"
	"testing"

	"lagoon/api"
	"lagoon/chain"
)

// farOff are numbers that are far beside all bounds but MaxCount's.
func farOff() []int {
	return []int{math.MinInt, math.MinInt + 1, -1 << 40, -1 << 32, -3, -2, 200, 300, 1 << 31, 1<<32 + 1, 1<<32 + 3, 1 << 62, math.MaxInt - 1, math.MaxInt}
}

// wantConfig holds a config, and the error beside it, against those that should be.
func wantConfig(t *testing.T, call string, got api.Config, err api.Errno, want api.Config, wantErr api.Errno) {
	t.Helper()
	if got.Epoch != want.Epoch || !slices.Equal(got.Members, want.Members) || !slices.Equal(got.Since, want.Since) || err != wantErr {
		t.Errorf("%s: %s, %d; want %s, %d", call, show(got), err, show(want), wantErr)
	}
}

// P8.1: First of each n that may be; of all others ErrRange, and nothing beside it (R3).
func TestFirst(t *testing.T) {
	for n, members := range map[int][]int{1: {0}, 2: {0, 1}, 3: {0, 1, 2}} {
		x, err := chain.First(n)
		wantConfig(t, fmt.Sprintf("First(%d)", n), x, err, config(1, members, []int{1, 1, 1}[:n]), 0)
	}
	for _, n := range append(farOff(), -1, 0, 4) {
		x, err := chain.First(n)
		wantConfig(t, fmt.Sprintf("First(%d)", n), x, err, api.Config{}, 2)
	}
}

// P8.1: Next, by rows written down.
func TestNextRows(t *testing.T) {
	x := config(6, []int{2, 0, 1}, []int{4, 6, 1})
	two := config(maxCount-1, []int{1, 0}, []int{maxCount - 1, 3})
	for _, c := range []struct {
		x       api.Config
		members []int
		want    api.Config
		err     api.Errno
	}{
		{config(1, []int{0, 1, 2}, []int{1, 1, 1}), []int{0, 2}, config(2, []int{0, 2}, []int{1, 1}), 0},
		{config(2, []int{0, 2}, []int{1, 1}), []int{0, 2, 1}, config(3, []int{0, 2, 1}, []int{1, 1, 3}), 0},
		{config(1, []int{0, 1, 2}, []int{1, 1, 1}), []int{2, 1, 0}, config(2, []int{0, 1, 2}, []int{1, 1, 1}), 0},
		{x, []int{0, 1, 2}, config(7, []int{2, 0, 1}, []int{4, 6, 1}), 0},
		{x, []int{1}, config(7, []int{1}, []int{1}), 0},
		{x, []int{1, 2}, config(7, []int{2, 1}, []int{4, 1}), 0},
		{config(6, []int{1}, []int{6}), []int{2, 0, 1}, config(7, []int{1, 2, 0}, []int{6, 7, 7}), 0},
		{config(6, []int{1}, []int{6}), []int{0, 1, 2}, config(7, []int{1, 0, 2}, []int{6, 7, 7}), 0},
		{config(6, []int{1}, []int{6}), []int{2, 0}, api.Config{}, 23},
		{config(6, []int{1, 2}, []int{6, 6}), []int{0}, api.Config{}, 23},
		{two, []int{2, 0}, config(maxCount, []int{0, 2}, []int{3, maxCount}), 0},
		{two, []int{2}, api.Config{}, 23},
		{config(maxCount, []int{0}, []int{1}), []int{0}, api.Config{}, 2},
		{config(maxCount, []int{0}, []int{1}), []int{1}, api.Config{}, 2},
		{x, []int{0, 3}, api.Config{}, 2},
		{config(6, []int{1}, []int{6}), []int{0, 0}, api.Config{}, 2},
		{config(6, []int{1}, []int{6}), []int{0, -1}, api.Config{}, 2},
	} {
		y, err := chain.Next(c.x, c.members)
		wantConfig(t, fmt.Sprintf("Next(%s, %v)", show(c.x), c.members), y, err, c.want, c.err)
	}
}

// lists are all lists of up to three of these numbers.
func lists(of ...int) [][]int {
	all := [][]int{nil}
	for from := 0; len(all[from]) < 3; from++ {
		for _, n := range of {
			all = append(all, append(slices.Clone(all[from]), n))
		}
	}
	return all
}

// plainNext is Next as P8.1 tells it.
func plainNext(x api.Config, members []int) (api.Config, api.Errno) {
	ones := slices.Repeat([]int{1}, len(members))
	if !plainMayBe(x, nStores) || x.Epoch == maxCount || !plainMayBe(config(1, members, ones), nStores) {
		return api.Config{}, errRange
	}
	y := config(x.Epoch+1, nil, nil)
	for i, m := range x.Members {
		if slices.Index(members, m) >= 0 {
			y.Members, y.Since = append(y.Members, m), append(y.Since, x.Since[i])
		}
	}
	if y.Members == nil {
		return api.Config{}, errLost
	}
	for _, m := range members {
		if slices.Index(x.Members, m) < 0 {
			y.Members, y.Since = append(y.Members, m), append(y.Since, x.Epoch+1)
		}
	}
	return y, ok
}

// P8.1: Next of each order of old members, by each list of new ones, those that may be and those that may not.
func TestNextMembers(t *testing.T) {
	answers := map[api.Errno]int{}
	for _, old := range lists(-1, 0, 1, 2, 3) {
		x := config(9, old, mapped(old, func(m int) int { return max(1, 8-3*m) }))
		for _, members := range lists(-1, 0, 1, 2, 3) {
			want, wantErr := plainNext(x, members)
			y, err := chain.Next(x, members)
			wantConfig(t, fmt.Sprintf("Next(%s, %v)", show(x), members), y, err, want, wantErr)
			answers[err]++
			if t.Failed() {
				return
			}
		}
	}
	if answers[ok] != 207 || answers[errLost] != 18 {
		t.Errorf("the answers were %v", answers)
	}
}

// configsAmiss are configs that may not be of a chain of three; most of them are amiss in one thing alone.
func configsAmiss() []api.Config {
	fine := config(5, []int{0, 1, 2}, []int{1, 5, 3})
	var l []api.Config
	for _, epoch := range []int{0, -1, -5, maxCount + 1, 1 << 41, 1<<40 + 1<<32, math.MinInt, math.MaxInt} {
		l = append(l, config(epoch, []int{0, 1, 2}, []int{1, 1, 1}), config(epoch, []int{0}, []int{epoch}), config(epoch, []int{0}, []int{0}))
	}
	for _, members := range [][]int{nil, {}, {0}, {0, 1}, {0, 1, 2, 0}, {0, 1, 2, 3}, {0, 0, 1}, {0, 1, 0}, {1, 0, 0}, {2, 2, 2}, {-1, 1, 2}, {0, -1, 2}, {0, 1, -1}, {3, 1, 2}, {0, 3, 2}, {0, 1, 3}, {0, 1, math.MaxInt}, {math.MinInt, 1, 2}, {0, 1<<32 + 1, 2}} {
		l = append(l, config(5, members, fine.Since))
	}
	for _, since := range [][]int{nil, {}, {1}, {1, 1}, {1, 1, 1, 1}, {0, 1, 1}, {1, 0, 1}, {1, 1, 0}, {6, 1, 1}, {1, 6, 1}, {1, 1, 6}, {-1, 1, 1}, {1, 1, -5}, {1, math.MaxInt, 1}, {math.MinInt, 1, 1}, {1, 1, 1<<32 + 1}, {maxCount, 1, 1}} {
		l = append(l, config(5, fine.Members, since))
	}
	return append(l,
		api.Config{},
		config(5, nil, nil),
		config(5, []int{}, []int{}),
		config(5, []int{0, 1, 2, 0}, []int{1, 1, 1, 1}),
		config(5, []int{0, 1, 2, 3}, []int{1, 1, 1, 1}),
		config(5, []int{0, 0}, []int{1, 1}),
		config(5, []int{3}, []int{1}),
		config(5, make([]int, 1<<20), make([]int, 1<<20)),
		config(5, []int{0}, make([]int, 1<<20)),
		config(1, []int{0}, []int{2}),
	)
}

// P8.1: Next of configs that may not be, whichever members come; and of those just beside them.
func TestNextAmiss(t *testing.T) {
	for _, x := range configsAmiss() {
		for _, members := range [][]int{{0}, {0, 1, 2}, {2, 1}, nil, {3}, {0, 0}} {
			y, err := chain.Next(x, members)
			wantConfig(t, fmt.Sprintf("Next(%d of epoch %d, %v)", len(x.Members), x.Epoch, members), y, err, api.Config{}, 2)
		}
	}
	for _, members := range [][]int{nil, {}, {-1}, {3}, {0, 3}, {-1, 0}, {0, 0}, {0, 1, 1}, {0, 1, 0}, {0, 1, 2, 0}, {0, 1, 2, 3}, {math.MinInt}, {0, math.MaxInt}, {1 << 32}, make([]int, 1<<20)} {
		for _, x := range []api.Config{first(t, 3), first(t, 1), config(9, []int{2, 1}, []int{3, 9})} {
			y, err := chain.Next(x, members)
			wantConfig(t, fmt.Sprintf("Next(%s, %d members)", show(x), len(members)), y, err, api.Config{}, 2)
		}
	}
	for _, epoch := range []int{1, 2, 127, 1 << 31, 1 << 32, maxCount - 2, maxCount - 1} {
		for _, since := range []int{1, epoch/2 + 1, epoch} {
			x := config(epoch, []int{1}, []int{since})
			y, err := chain.Next(x, []int{2, 1})
			wantConfig(t, fmt.Sprintf("Next(%s, 2 1)", show(x)), y, err, config(epoch+1, []int{1, 2}, []int{since, epoch + 1}), 0)
		}
	}
}

// roomy is a list with spare room behind it, and all of it.
func roomy(l []int) ([]int, []int) {
	all := append(slices.Clone(l), 71, 72, 73, 74, 75)
	return all[:len(l)], all
}

// spoil writes over a list and the spare room behind it.
func spoil(l []int) {
	l = l[:cap(l)]
	for i := range l {
		l[i] = -77
	}
}

// R5, R6: First and Next change no list that is handed in, nor the room behind it, and keep none; each list that they answer is new memory, spare room too.
func TestConfigsMemory(t *testing.T) {
	for _, c := range []struct{ old, since, members, want, wantSince []int }{
		{[]int{0, 1, 2}, []int{1, 2, 3}, []int{0, 1, 2}, []int{0, 1, 2}, []int{1, 2, 3}},
		{[]int{0, 1, 2}, []int{1, 2, 3}, []int{2, 0}, []int{0, 2}, []int{1, 3}},
		{[]int{1}, []int{4}, []int{0, 1, 2}, []int{1, 0, 2}, []int{4, 6, 6}},
		{[]int{1, 2}, []int{4, 5}, []int{2}, []int{2}, []int{5}},
		{[]int{1, 2}, []int{4, 5}, []int{2, 0}, []int{2, 0}, []int{5, 6}},
		{[]int{0}, []int{1}, []int{0}, []int{0}, []int{1}},
	} {
		old, allOld := roomy(c.old)
		since, allSince := roomy(c.since)
		members, allMembers := roomy(c.members)
		wasOld, wasSince, wasMembers := slices.Clone(allOld), slices.Clone(allSince), slices.Clone(allMembers)
		x := config(5, old, since)
		y, err := chain.Next(x, members)
		again, _ := chain.Next(x, members)
		want := config(6, c.want, c.wantSince)
		wantConfig(t, "Next", y, err, want, ok)
		spoil(y.Members)
		wantConfig(t, "Next, its Members written over", y, ok, config(6, y.Members, c.wantSince), ok)
		spoil(y.Since)
		wantConfig(t, "another Next", again, ok, want, ok)
		if !slices.Equal(allOld, wasOld) || !slices.Equal(allSince, wasSince) || !slices.Equal(allMembers, wasMembers) {
			t.Errorf("Next(%s, %v) changes what is handed in, or shares it: %v, %v, %v", show(x), members, allOld, allSince, allMembers)
		}
		y, _ = chain.Next(x, members)
		spoil(old)
		spoil(since)
		spoil(members)
		wantConfig(t, "Next, what was handed in written over", y, ok, want, ok)
		spoil(y.Since)
		wantConfig(t, "Next, its Since written over", y, ok, config(6, c.want, y.Since), ok)
	}
	for n := 1; n <= 3; n++ {
		x, other := first(t, n), first(t, n)
		spoil(x.Members)
		wantConfig(t, "First, its Members written over", x, ok, config(1, x.Members, []int{1, 1, 1}[:n]), ok)
		spoil(x.Since)
		wantConfig(t, "another First", other, ok, first(t, n), ok)
	}
}
