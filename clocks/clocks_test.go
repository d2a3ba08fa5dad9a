package clocks_test

import (
	"math"
	"math/big"
	"math/rand"
	"slices"
	"testing"

	"lagoon/api"
	"lagoon/clocks"
)

// maxTime and maxRho as the document tells them.
const (
	maxTime = 1 << 52
	maxRho  = 999
)

// edges are numbers at which times and rhos begin, end, or would wrap.
var edges = []int{
	math.MinInt, math.MinInt + 1, -maxTime, math.MinInt32, -1000, -2, -1,
	0, 1, 2, 3, 10, 99, 100, 101, 333, 500, 998, 999, 1000, 1001, 1998, 1999, 2000, 2001,
	math.MaxInt32, 1 << 32, maxTime / 2, maxTime/2 + 1, maxTime - 1, maxTime, maxTime + 1, 2 * maxTime,
	1 << 62, math.MaxInt - maxTime, math.MaxInt - 1, math.MaxInt,
}

// rhos are numbers that are rhos, and such as aren't.
var rhos = []int{math.MinInt, -1000, -1, 0, 1, 2, 99, 100, 333, 334, 500, 998, 999, 1000, 1001, 1 << 32, math.MaxInt}

// times are those of the edges that are times.
func times() []int {
	return slices.DeleteFunc(slices.Clone(edges), func(n int) bool { return n < 0 || n > maxTime })
}

// product of two numbers, however great.
func product(a, b int) *big.Int {
	return new(big.Int).Mul(big.NewInt(int64(a)), big.NewInt(int64(b)))
}

// keeps tells by the chapter's words, whether a clock keeps within rho.
func keeps(d, a, rho int) bool {
	if d < 0 || d > maxTime || a < 0 || a > maxTime || rho < 0 || rho > maxRho {
		return false
	}
	gap := product(max(d, a)-min(d, a), 1000)
	return gap.Cmp(product(rho, d)) <= 0
}

// leastKept is the first rho within which a clock keeps; 1000, if there is none.
func leastKept(d, a int) int {
	for rho := 0; rho <= maxRho; rho++ {
		if keeps(d, a, rho) {
			return rho
		}
	}
	return 1000
}

// wantShrink holds what Shrink answers against what it should.
func wantShrink(t *testing.T, term, rho, want int, wantErr api.Errno) {
	t.Helper()
	if got, err := clocks.Shrink(term, rho); got != want || err != wantErr {
		t.Errorf("Shrink(%d, %d): %d, %d; want %d, %d", term, rho, got, err, want, wantErr)
	}
}

// wantLeast holds what Least and, at each rho, Honest answer against the chapter's words.
func wantLeast(t *testing.T, d, a int) {
	t.Helper()
	if got, want := clocks.Least(d, a), leastKept(d, a); got != want {
		t.Errorf("Least(%d, %d): %d; want %d", d, a, got, want)
	}
	for _, rho := range rhos {
		if got, want := clocks.Honest(d, a, rho), keeps(d, a, rho); got != want {
			t.Errorf("Honest(%d, %d, %d): %v; want %v", d, a, rho, got, want)
		}
	}
}

// told is all that clocks tell of themselves.
type told struct {
	truth, drift int
	now          []int
}

// made are n new clocks.
func made(t *testing.T, n int) *clocks.Clocks {
	t.Helper()
	c, err := clocks.New(n)
	if c == nil || err != api.OK {
		t.Fatalf("New(%d): %v, %d; want clocks, 0", n, c, err)
	}
	return c
}

// wantTold holds all that clocks tell of themselves against what it should be, of clocks that there aren't too.
func wantTold(t *testing.T, what string, c *clocks.Clocks, want told) {
	t.Helper()
	if c.True() != want.truth || c.Drift() != want.drift || c.Len() != len(want.now) {
		t.Errorf("%s: True %d, Drift %d, Len %d; want %d, %d, %d", what, c.True(), c.Drift(), c.Len(), want.truth, want.drift, len(want.now))
	}
	for i, now := range want.now {
		if c.Now(i) != now {
			t.Errorf("%s: Now(%d): %d; want %d", what, i, c.Now(i), now)
		}
	}
	n := len(want.now)
	for _, i := range []int{math.MinInt, math.MinInt32, -12, -2, -1, n, n + 1, 12, 13, 1 << 32, math.MaxInt} {
		if c.Now(i) != 0 {
			t.Errorf("%s: Now(%d) of %d clocks: %d; want 0", what, i, n, c.Now(i))
		}
	}
}

// wantTick ticks, and holds the error against what it should be.
func wantTick(t *testing.T, c *clocks.Clocks, want api.Errno, d int, by ...int) {
	t.Helper()
	if got := c.Tick(d, by); got != want {
		t.Errorf("Tick(%d, %v) at %d of %d clocks: %d; want %d", d, by, c.True(), c.Len(), got, want)
	}
}

// alike is a list of n numbers that are all the same.
func alike(n, x int) []int {
	return slices.Repeat([]int{x}, n)
}

// The chapter's examples.
func TestExamples(t *testing.T) {
	for _, x := range []struct {
		d, a, rho int
		want      bool
	}{{100, 90, 100, true}, {100, 89, 100, false}, {0, 1, 999, false}, {0, 0, 0, true}} {
		if got := clocks.Honest(x.d, x.a, x.rho); got != x.want {
			t.Errorf("Honest(%d, %d, %d): %v", x.d, x.a, x.rho, got)
		}
	}
	for _, x := range [][3]int{{100, 90, 100}, {0, 1, 1000}, {3, 4, 334}} {
		if got := clocks.Least(x[0], x[1]); got != x[2] {
			t.Errorf("Least(%d, %d): %d; want %d", x[0], x[1], got, x[2])
		}
	}
	wantShrink(t, 60, 100, 49, api.OK)
	wantShrink(t, 60, 0, 60, api.OK)
	wantShrink(t, -1, 0, 0, api.ErrRange)
	c := made(t, 2)
	wantTick(t, c, api.OK, 100, 99, 101)
	wantTold(t, "behind a tick", c, told{100, 10, []int{99, 101}})
	wantTick(t, c, api.ErrRange, 1, 1)
	wantTick(t, c, api.ErrTime, maxTime, 0, 0)
	wantTold(t, "behind ticks that were refused", c, told{100, 10, []int{99, 101}})
}

// The limits, and the errors' numbers, as the document tells them.
func TestLimits(t *testing.T) {
	if api.MaxTime != maxTime || api.MaxRho != maxRho || api.MaxClocks != 12 {
		t.Errorf("MaxTime %d, MaxRho %d, MaxClocks %d", api.MaxTime, api.MaxRho, api.MaxClocks)
	}
	if api.OK != 0 || api.ErrNil != 1 || api.ErrRange != 2 || api.ErrTime != 18 {
		t.Errorf("OK %d, ErrNil %d, ErrRange %d, ErrTime %d", api.OK, api.ErrNil, api.ErrRange, api.ErrTime)
	}
}

// P3.1: Honest and Least at all edges, of times and of what is none.
func TestHonestAtEdges(t *testing.T) {
	for _, d := range edges {
		for _, a := range edges {
			wantLeast(t, d, a)
		}
	}
}

// P3.1: Honest and Least of all small numbers.
func TestHonestOfSmall(t *testing.T) {
	for d := range 40 {
		for a := range 90 {
			wantLeast(t, d, a)
		}
	}
}

// P3.1: Honest at the last a within rho, and the first one beyond, on both sides, at times of every size.
func TestHonestAtBounds(t *testing.T) {
	for _, d := range times() {
		for _, rho := range []int{0, 1, 2, 100, 333, 500, 998, 999} {
			room := product(rho, d)
			room.Quo(room, big.NewInt(1000))
			for _, off := range []int{-1, 0, 1} {
				wantLeast(t, d, d-int(room.Int64())+off)
				wantLeast(t, d, d+int(room.Int64())+off)
			}
		}
	}
}

// P3.1: what isn't a time, or no rho, is never honest, and its rho is none.
func TestHonestOfNone(t *testing.T) {
	for _, bad := range []int{math.MinInt, -1, maxTime + 1, math.MaxInt} {
		for _, x := range [][2]int{{bad, bad}, {bad, 0}, {0, bad}, {bad, maxTime}, {maxTime, bad}} {
			if clocks.Honest(x[0], x[1], 999) || clocks.Least(x[0], x[1]) != 1000 {
				t.Errorf("Honest, Least of %v: %v, %d; want false, 1000", x, clocks.Honest(x[0], x[1], 999), clocks.Least(x[0], x[1]))
			}
		}
	}
	for _, rho := range []int{math.MinInt, -1, 1000, 1001, math.MaxInt} {
		if clocks.Honest(0, 0, rho) || clocks.Honest(100, 100, rho) {
			t.Errorf("Honest with a rho of %d: true", rho)
		}
	}
	if !clocks.Honest(maxTime, maxTime, 0) || clocks.Least(maxTime, maxTime) != 0 {
		t.Error("MaxTime is a time")
	}
	if clocks.Least(maxTime, 0) != 1000 || clocks.Least(1, maxTime) != 1000 || clocks.Least(1000, 1) != 999 || clocks.Least(1000, 1999) != 999 {
		t.Error("Least at the greatest rho")
	}
}

// P3.1: Least is within its bounds and the least one, at times of every size.
func TestLeastOfMany(t *testing.T) {
	dice := rand.New(rand.NewSource(1))
	for range 20000 {
		d, a := anyTime(dice), anyTime(dice)
		if dice.Intn(2) == 0 {
			a = min(max(d+anyTime(dice)%(d+1)-anyTime(dice)%(d+1), 0), maxTime)
		}
		rho := clocks.Least(d, a)
		if rho < 0 || rho > 1000 || rho < 1000 && !keeps(d, a, rho) || rho > 0 && keeps(d, a, rho-1) {
			t.Fatalf("Least(%d, %d): %d; want %d", d, a, rho, leastKept(d, a))
		}
		for _, at := range []int{rho - 1, rho, rho + 1, dice.Intn(1000)} {
			if clocks.Honest(d, a, at) != keeps(d, a, at) {
				t.Fatalf("Honest(%d, %d, %d): not %v", d, a, at, keeps(d, a, at))
			}
		}
	}
}

// anyTime is a time of any size.
func anyTime(dice *rand.Rand) int {
	if dice.Intn(8) == 0 {
		return maxTime - dice.Intn(3)
	}
	return int(dice.Int63n(maxTime) >> dice.Intn(53))
}

// P3.1: Shrink at all edges, of terms and of rhos.
func TestShrink(t *testing.T) {
	for _, term := range edges {
		for _, rho := range append(rhos, edges...) {
			if term < 0 || term > maxTime || rho < 0 || rho > maxRho {
				wantShrink(t, term, rho, 0, api.ErrRange)
				continue
			}
			want := product(term, 1000-rho)
			want.Quo(want, big.NewInt(int64(1000+rho)))
			wantShrink(t, term, rho, int(want.Int64()), api.OK)
		}
	}
	wantShrink(t, maxTime, 0, maxTime, api.OK)
	wantShrink(t, maxTime, 999, maxTime/1999, api.OK)
	wantShrink(t, maxTime+1, 0, 0, api.ErrRange)
	wantShrink(t, 60, 1000, 0, api.ErrRange)
	wantShrink(t, 60, -1, 0, api.ErrRange)
	wantShrink(t, 0, 999, 0, api.OK)
	wantShrink(t, 1998, 999, 0, api.OK)
	wantShrink(t, 1999, 999, 1, api.OK)
}

// P3.2: New, of every number of clocks and of what is none.
func TestNew(t *testing.T) {
	for n := 1; n <= 12; n++ {
		wantTold(t, "new clocks", made(t, n), told{0, 0, alike(n, 0)})
	}
	for _, n := range []int{math.MinInt, math.MinInt32, -12, -1, 0, 13, 14, 64, 1 << 32, 1<<32 + 1, math.MaxInt} {
		if c, err := clocks.New(n); c != nil || err != api.ErrRange {
			t.Errorf("New(%d): %v, %d; want nil, %d", n, c, err, api.ErrRange)
		}
	}
}

// P3.2: Tick of every number of clocks: each one goes on by its own number.
func TestTick(t *testing.T) {
	for n := 1; n <= 12; n++ {
		c := made(t, n)
		by := make([]int, n)
		for i := range by {
			by[i] = 1000 + 10*i
		}
		wantTick(t, c, api.OK, 1000, by...)
		wantTold(t, "behind a tick", c, told{1000, 10 * (n - 1), by})
		wantTick(t, c, api.OK, 500, alike(n, 500)...)
		for i := range by {
			by[i] += 500
		}
		wantTold(t, "behind two ticks", c, told{1500, 10 * (n - 1), by})
	}
}

// P3.2: a tick of 0 is none, but for a clock that goes on while true time doesn't: its drift is none that may be.
func TestTickOf0(t *testing.T) {
	c := made(t, 3)
	wantTick(t, c, api.OK, 0, 0, 0, 0)
	wantTold(t, "a tick of 0", c, told{0, 0, []int{0, 0, 0}})
	wantTick(t, c, api.OK, 7, 7, 7, 7)
	wantTick(t, c, api.OK, 0, 0, 0, 0)
	wantTold(t, "another one", c, told{7, 0, []int{7, 7, 7}})
	wantTick(t, c, api.OK, 0, 0, 1, 0)
	wantTold(t, "a clock alone went on", c, told{7, 1000, []int{7, 8, 7}})
	wantTick(t, c, api.OK, 5, 0, 5, 5)
	wantTold(t, "a clock stood still", c, told{12, 1000, []int{7, 13, 12}})
}

// P3.2: the drift is the greatest of all clocks and all ticks, whichever clock it was, and never less again.
func TestDrift(t *testing.T) {
	c := made(t, 3)
	for _, x := range []struct{ d, drift, a0, a1, a2 int }{
		{100, 0, 100, 100, 100},
		{100, 10, 99, 100, 100},
		{100, 20, 100, 102, 100},
		{100, 20, 101, 101, 99},
		{100, 30, 100, 100, 97},
		{3, 334, 3, 4, 3},
		{1000000, 334, 1000000, 1000000, 1000000},
		{100, 900, 99, 98, 10},
		{100, 1000, 0, 100, 100},
		{100, 1000, 100, 100, 100},
	} {
		wantTick(t, c, api.OK, x.d, x.a0, x.a1, x.a2)
		if c.Drift() != x.drift {
			t.Errorf("Tick(%d, %d %d %d): Drift %d; want %d", x.d, x.a0, x.a1, x.a2, c.Drift(), x.drift)
		}
	}
	late := made(t, 1)
	wantTick(t, late, api.OK, 1, 1000)
	wantTold(t, "a clock that ran", late, told{1, 1000, []int{1000}})
}

// P3.2: Tick with too few, too many and no numbers is ErrRange, also where it would be ErrTime, and changes nothing.
func TestTickOfOtherLength(t *testing.T) {
	for n := 1; n <= 12; n++ {
		c := made(t, n)
		wantTick(t, c, api.OK, 9, alike(n, 9)...)
		for m := range 15 {
			if m != n {
				wantTick(t, c, api.ErrRange, 1, alike(m, 1)...)
				wantTick(t, c, api.ErrRange, 0, alike(m, 0)...)
				wantTick(t, c, api.ErrRange, math.MaxInt, alike(m, math.MaxInt)...)
			}
		}
		if err := c.Tick(1, nil); err != api.ErrRange {
			t.Errorf("Tick(1, nil): %d", err)
		}
		wantTold(t, "behind ticks of another length", c, told{9, 0, alike(n, 9)})
	}
}

// P3.2: Tick with a number below 0 is ErrRange, whichever it is, also where another one would be ErrTime, and changes nothing.
func TestTickBelow0(t *testing.T) {
	for _, n := range []int{1, 2, 3, 12} {
		c := made(t, n)
		wantTick(t, c, api.OK, 1000, alike(n, 1000)...)
		for _, low := range []int{-1, -2, -1000, -maxTime, math.MinInt, math.MinInt + 1} {
			for _, other := range []int{0, 1, maxTime, math.MaxInt} {
				wantTick(t, c, api.ErrRange, low, alike(n, other)...)
				for i := range n {
					by := alike(n, other)
					by[i] = low
					wantTick(t, c, api.ErrRange, other, by...)
				}
			}
			wantTick(t, c, api.ErrRange, low, alike(n, low)...)
		}
		wantTold(t, "behind numbers below 0", c, told{1000, 0, alike(n, 1000)})
	}
}

// P3.2: Tick to just MaxTime, of true time and of clocks; beyond it neither goes.
func TestTickToMaxTime(t *testing.T) {
	for _, n := range []int{1, 2, 12} {
		for _, from := range []int{0, 1, 1000, maxTime - 1} {
			c := made(t, n)
			wantTick(t, c, api.OK, from, alike(n, from)...)
			wantTick(t, c, api.ErrTime, maxTime-from+1, alike(n, maxTime-from+1)...)
			wantTick(t, c, api.OK, maxTime-from, alike(n, maxTime-from)...)
			wantTold(t, "at MaxTime", c, told{maxTime, 0, alike(n, maxTime)})
			wantTick(t, c, api.ErrTime, 1, alike(n, 1)...)
			wantTick(t, c, api.OK, 0, alike(n, 0)...)
			wantTold(t, "still at MaxTime", c, told{maxTime, 0, alike(n, maxTime)})
		}
	}
}

// P3.2, R4, R8: where true time alone, or one clock alone, would pass MaxTime by a step of any size, nothing is changed.
func TestTickBeyondMaxTime(t *testing.T) {
	const from = 1000
	for _, n := range []int{1, 2, 3, 12} {
		c := made(t, n)
		wantTick(t, c, api.OK, from, alike(n, from)...)
		for _, step := range []int{maxTime - from + 1, maxTime - from + 2, maxTime, maxTime + 1, 2 * maxTime, 1 << 62, math.MaxInt - from, math.MaxInt - 1, math.MaxInt} {
			wantTick(t, c, api.ErrTime, step, alike(n, 0)...)
			wantTick(t, c, api.ErrTime, step, alike(n, step)...)
			for i := range n {
				by := alike(n, 1)
				by[i] = step
				wantTick(t, c, api.ErrTime, 1, by...)
			}
		}
		wantTold(t, "behind ticks beyond MaxTime", c, told{from, 0, alike(n, from)})
		wantTick(t, c, api.OK, 1, alike(n, 1)...)
		wantTold(t, "it goes on", c, told{from + 1, 0, alike(n, from+1)})
	}
}

// P3.2: one clock alone at MaxTime, or true time alone.
func TestTickAtMaxTimeAlone(t *testing.T) {
	c := made(t, 2)
	wantTick(t, c, api.OK, 10, 10, maxTime)
	wantTick(t, c, api.ErrTime, 10, 10, 1)
	wantTick(t, c, api.OK, maxTime-10, 5, 0)
	wantTick(t, c, api.ErrTime, 1, 0, 0)
	wantTick(t, c, api.OK, 0, 1, 0)
	wantTold(t, "true time and one clock are at MaxTime", c, told{maxTime, 1000, []int{16, maxTime}})
}

// A nil *Clocks: ErrNil ahead of all else, and 0.
func TestNilClocks(t *testing.T) {
	var c *clocks.Clocks
	for _, d := range edges {
		wantTick(t, c, api.ErrNil, d)
		wantTick(t, c, api.ErrNil, d, d)
		wantTick(t, c, api.ErrNil, d, alike(13, d)...)
	}
	wantTold(t, "nil clocks", c, told{})
}

// R1: a set that New didn't make has no clocks; no call of it panics.
func TestZeroClocks(t *testing.T) {
	var c clocks.Clocks
	wantTold(t, "the zero clocks", &c, told{})
	wantTick(t, &c, api.ErrRange, 1, 1)
	wantTick(t, &c, api.ErrRange, -1)
	wantTick(t, &c, api.ErrTime, math.MaxInt)
	wantTick(t, &c, api.OK, 5)
	wantTold(t, "the zero clocks", &c, told{truth: 5})
}

// R5: what is handed in is neither changed nor kept, the spare room behind it neither.
func TestNumbersHandedIn(t *testing.T) {
	whole := []int{5, 6, 7, 8, 9}
	by := whole[1:3]
	c := made(t, 2)
	for _, x := range []struct {
		d    int
		want api.Errno
	}{{6, api.OK}, {-1, api.ErrRange}, {math.MaxInt, api.ErrTime}} {
		if err := c.Tick(x.d, by); err != x.want || !slices.Equal(whole, []int{5, 6, 7, 8, 9}) {
			t.Errorf("Tick(%d, 6 7): %d, and the numbers handed in are %v", x.d, err, whole)
		}
	}
	by[0], by[1] = 1000, 2000
	wantTold(t, "the numbers handed in were changed", c, told{6, 167, []int{6, 7}})
	wantTick(t, c, api.OK, 1, 1, 1)
	wantTold(t, "a tick behind that", c, told{7, 167, []int{7, 8}})
}

// R7: two sets of clocks don't touch each other, nor do a set and its copy.
func TestClocksApart(t *testing.T) {
	a, b := made(t, 2), made(t, 2)
	by := []int{10, 9}
	wantTick(t, a, api.OK, 10, by...)
	wantTold(t, "the other set", b, told{0, 0, []int{0, 0}})
	wantTick(t, b, api.OK, 20, 20, 20)
	wantTold(t, "one set", a, told{10, 100, []int{10, 9}})
	wantTold(t, "the other set", b, told{20, 0, []int{20, 20}})
	c := *a
	wantTick(t, a, api.OK, 1, 1, 1)
	wantTick(t, &c, api.OK, 5, 4, 5)
	wantTold(t, "a set", a, told{11, 100, []int{11, 10}})
	wantTold(t, "its copy", &c, told{15, 200, []int{14, 14}})
}

// R7: the same calls answer the same, whatever was done with another set between.
func TestRowsAgain(t *testing.T) {
	first, second := made(t, 12), made(t, 12)
	dice := rand.New(rand.NewSource(2))
	for range 1000 {
		d, by := anyStep(dice, 12)
		if a, b := first.Tick(d, by), second.Tick(d, by); a != b {
			t.Fatalf("Tick(%d, %v): %d, and then %d", d, by, a, b)
		}
		first.Tick(-1, nil)
	}
	if *first != *second {
		t.Errorf("two sets of the same calls: %v, %v", *first, *second)
	}
}

// anyStep is a step for n clocks, mostly a small one that none is far off, at times a great or a wrong one.
func anyStep(dice *rand.Rand, n int) (int, []int) {
	d := dice.Intn(1000)
	by := make([]int, n)
	for i := range by {
		by[i] = max(d+dice.Intn(7)-3, 0)
	}
	switch dice.Intn(30) {
	case 0:
		by[dice.Intn(n)] = edges[dice.Intn(len(edges))]
	case 1:
		d = edges[dice.Intn(len(edges))]
	case 2:
		by = by[1:]
	case 3:
		by = append(by, 1)
	}
	return d, by
}

// model is clocks told the plain way, with sums that can't wrap: what the clocks are held against.
type model struct {
	truth *big.Int
	now   []*big.Int
	drift int
}

func newModel(n int) *model {
	m := &model{truth: new(big.Int)}
	for range n {
		m.now = append(m.now, new(big.Int))
	}
	return m
}

func (m *model) tick(d int, by []int) api.Errno {
	if len(by) != len(m.now) || d < 0 || slices.ContainsFunc(by, func(a int) bool { return a < 0 }) {
		return api.ErrRange
	}
	most := big.NewInt(maxTime)
	truth := new(big.Int).Add(m.truth, big.NewInt(int64(d)))
	passes := truth.Cmp(most) > 0
	var now []*big.Int
	drift := m.drift
	for i, a := range by {
		now = append(now, new(big.Int).Add(m.now[i], big.NewInt(int64(a))))
		passes = passes || now[i].Cmp(most) > 0
		drift = max(drift, leastKept(d, a))
	}
	if passes {
		return api.ErrTime
	}
	m.truth, m.now, m.drift = truth, now, drift
	return api.OK
}

func (m *model) told() told {
	all := told{truth: int(m.truth.Int64()), drift: m.drift}
	for _, now := range m.now {
		all.now = append(all.now, int(now.Int64()))
	}
	return all
}

// P3.2: long rows of calls, step by step.
func TestRows(t *testing.T) {
	dice := rand.New(rand.NewSource(3))
	for row := range 60 {
		n := 1 + row%12
		c, m := made(t, n), newModel(n)
		for range 100 {
			d, by := anyStep(dice, n)
			wantTick(t, c, m.tick(d, by), d, by...)
			wantTold(t, "behind a step", c, m.told())
		}
	}
}

// P3.3: who counts a shrunk term on its own clock is done while another one has something left.
func TestShrunkTerm(t *testing.T) {
	for _, rho := range []int{0, 1, 2, 10, 100, 333, 500, 900, 998, 999} {
		for term := range 130 {
			checkShrunk(t, term, rho, 400)
		}
	}
}

// checkShrunk goes through all true times up to most, over which the own clock hasn't counted the shrunk term yet: no other honest clock has counted the whole term.
func checkShrunk(t *testing.T, term, rho, most int) {
	t.Helper()
	shrunk, err := clocks.Shrink(term, rho)
	if err != api.OK {
		t.Fatalf("Shrink(%d, %d): %d", term, rho, err)
	}
	for d := range most {
		slowest := (d*(1000-rho) + 999) / 1000
		fastest := d * (1000 + rho) / 1000
		if !clocks.Honest(d, slowest, rho) || !clocks.Honest(d, fastest, rho) {
			t.Fatalf("the bounds %d, %d over %d within %d", slowest, fastest, d, rho)
		}
		if slowest < shrunk && fastest >= term {
			t.Fatalf("over %d within %d: one has counted %d of the shrunk term %d, another %d of the term %d", d, rho, slowest, shrunk, fastest, term)
		}
	}
}

// P3.3: of clocks of any sort, over times of every size.
func TestShrunkTermOfMany(t *testing.T) {
	dice := rand.New(rand.NewSource(4))
	met := 0
	for range 300000 {
		rho, d1 := dice.Intn(1000), anyTime(dice)
		d2 := d1 - dice.Intn(2)*min(d1, dice.Intn(100))
		a1, a2 := nearSlowest(dice, d1, rho), nearFastest(dice, d2, rho)
		aShrunkOne := (1000 + rho) / (1000 - rho)
		term := min(a2+dice.Intn(2+4*aShrunkOne), maxTime)
		shrunk, err := clocks.Shrink(term, rho)
		if err != api.OK {
			t.Fatalf("Shrink(%d, %d): %d", term, rho, err)
		}
		if !clocks.Honest(d1, a1, rho) || !clocks.Honest(d2, a2, rho) || a1 >= shrunk {
			continue
		}
		met++
		if a2 >= term {
			t.Fatalf("rho %d, d1 %d, d2 %d, a1 %d, a2 %d: Shrink(%d) is %d", rho, d1, d2, a1, a2, term, shrunk)
		}
	}
	if met < 1000 {
		t.Errorf("%d terms alone met what P3.3 speaks of", met)
	}
}

// nearSlowest is a number about the least by which a clock within rho goes on over d.
func nearSlowest(dice *rand.Rand, d, rho int) int {
	return max(d-int(new(big.Int).Quo(product(d, rho), big.NewInt(1000)).Int64())+dice.Intn(4)-1, 0)
}

// nearFastest is a number about the greatest by which a clock within rho goes on over d.
func nearFastest(dice *rand.Rand, d, rho int) int {
	return min(max(d+int(new(big.Int).Quo(product(d, rho), big.NewInt(1000)).Int64())-dice.Intn(4)+1, 0), maxTime)
}

// P3.4: clocks never go back; and if the drift is at most rho, between any two moments each clock kept within rho.
func TestBetweenMoments(t *testing.T) {
	dice := rand.New(rand.NewSource(5))
	for row := range 60 {
		n := 1 + row%12
		c := made(t, n)
		moments := []told{look(c)}
		for range 40 {
			d, by := anyStep(dice, n)
			c.Tick(d, by)
			moments = append(moments, look(c))
		}
		for i, from := range moments {
			for _, to := range moments[i:] {
				checkBetween(t, from, to)
			}
		}
	}
}

// look is all that clocks tell at a moment.
func look(c *clocks.Clocks) told {
	at := told{truth: c.True(), drift: c.Drift()}
	for i := range c.Len() {
		at.now = append(at.now, c.Now(i))
	}
	return at
}

func checkBetween(t *testing.T, from, to told) {
	t.Helper()
	if to.truth < from.truth || to.drift < from.drift {
		t.Fatalf("%v, and then %v", from, to)
	}
	for i := range from.now {
		if to.now[i] < from.now[i] {
			t.Fatalf("clock %d went back: %v, and then %v", i, from, to)
		}
		if to.drift <= maxRho && !keeps(to.truth-from.truth, to.now[i]-from.now[i], to.drift) {
			t.Fatalf("clock %d didn't keep within the drift %d: %v, and then %v", i, to.drift, from, to)
		}
	}
}
