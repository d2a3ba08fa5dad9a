package cache_test

import (
	"math/rand"
	"slices"
	"testing"

	"lagoon/api"
)

// twins are a cache and a plain one, that have the same done to them.
type twins struct {
	*box
	p       plain
	rnd     *rand.Rand
	blocks  []int // those that are worked on most
	answers map[string]int
}

// newTwins are new ones, who work on few blocks or on all.
func newTwins(t *testing.T, seed int64, answers map[string]int) *twins {
	t.Helper()
	w := &twins{box: newBox(t), rnd: rand.New(rand.NewSource(seed)), answers: answers}
	for _, i := range w.rnd.Perm(lastHome)[:1+w.rnd.Intn(lastHome)%(1+w.rnd.Intn(lastHome))] {
		w.blocks = append(w.blocks, 1+i)
	}
	slices.Sort(w.blocks)
	return w
}

// block is one that is worked on, now and then any number.
func (w *twins) block() int {
	if w.rnd.Intn(40) == 0 {
		return w.rnd.Intn(90) - 5
	}
	return w.blocks[w.rnd.Intn(len(w.blocks))]
}

// version is one near that which is known of a block, now and then any.
func (w *twins) version(b int) int {
	ver := 0
	if i := w.p.at(b); i >= 0 {
		ver = w.p.known[i].Ver
	}
	switch w.rnd.Intn(12) {
	case 0:
		return ver - 1 + w.rnd.Intn(5)
	case 1:
		return w.rnd.Intn(6)
	case 2:
		return maxCount - 3 + w.rnd.Intn(5)
	}
	return ver
}

// data is a block's bytes, now and then too many.
func (w *twins) data() string {
	n := w.rnd.Intn(8)
	if w.rnd.Intn(10) == 0 {
		n = w.rnd.Intn(42)
	}
	return mixed(n, w.rnd.Intn(99))
}

// record is updates that may be committed mostly, now and then any.
func (w *twins) record() []api.Update {
	var u []api.Update
	for range w.rnd.Intn(1 + w.rnd.Intn(14)) {
		b := w.block()
		if slices.ContainsFunc(u, func(x api.Update) bool { return x.Block == b }) && w.rnd.Intn(50) > 0 {
			continue
		}
		ver := 1
		if i := w.p.at(b); i >= 0 {
			ver += w.p.known[i].Ver
		}
		if w.rnd.Intn(40) == 0 {
			ver = w.version(b)
		}
		u = append(u, api.Update{Block: b, Ver: ver, Data: w.data()})
	}
	if w.rnd.Intn(50) > 0 {
		slices.SortFunc(u, func(x, y api.Update) int { return x.Block - y.Block })
	}
	return u
}

// same takes up an answer, which is to be the plain one's.
func (w *twins) same(what string, got, want any) {
	w.t.Helper()
	if got != want {
		w.t.Errorf("%s: %v; want %v", what, got, want)
	}
	switch x := got.(type) {
	case bool:
		w.answers[what+map[bool]string{true: " true", false: " false"}[x]]++
	case api.Errno:
		w.answers[what+" "+string(rune('0'+x/10))+string(rune('0'+x%10))]++
	}
}

// step does one thing to both.
func (w *twins) step() {
	w.t.Helper()
	switch k := w.rnd.Intn(100); {
	case k < 30:
		b := w.block()
		x := value(w.version(b), w.data())
		if x.Ver == 0 && w.rnd.Intn(10) > 0 {
			x.Data = ""
		}
		w.same("Load", w.Load(b, x), w.p.load(b, x))
	case k < 55:
		u := w.record()
		w.same("Commit", w.Commit(u), w.p.commit(u))
	case k < 75:
		w.same("Logged", w.Logged(), w.p.logged())
	case k < 99:
		b := w.block()
		ver := w.version(b)
		w.same("Clean", w.Clean(b, ver), w.p.clean(b, ver))
	case w.rnd.Intn(4) == 0:
		w.Drop()
		w.p = plain{}
	}
}

// wantAlike holds all that the cache tells against the plain one.
func (w *twins) wantAlike() {
	w.t.Helper()
	if is, want := w.tell(), w.p.tell(); !is.alike(want) {
		w.t.Errorf("the cache tells %v; want %v", is, want)
	}
}

// P16.1 to P16.3: long rows of all calls, of few blocks and of all, against the plain cache: what is answered, and what it tells then.
func TestRows(t *testing.T) {
	answers := map[string]int{}
	for seed := range int64(150) {
		w := newTwins(t, seed, answers)
		for step := 0; step < 500 && !t.Failed(); step++ {
			w.step()
			w.wantAlike()
		}
		if t.Failed() {
			t.Fatalf("seed %d", seed)
		}
	}
	for what, most := range map[string]int{"Load 00": 5000, "Load 02": 500, "Load 26": 2000, "Commit 00": 2000, "Commit 02": 1000, "Commit 25": 2000, "Logged true": 2000, "Logged false": 1000, "Clean true": 500, "Clean false": 5000} {
		if answers[what] < most {
			t.Errorf("the rows came to %s %d times only", what, answers[what])
		}
	}
}

// FuzzCalls has bytes say which calls are made, of a cache and a plain one.
func FuzzCalls(f *testing.F) {
	f.Add([]byte("\x00\x05\x01a\x01\x05\x02b\x01\x05\x02c\x01\x05\x03c\x02\x02\x03\x05\x02\x03\x05\x03"))
	f.Add([]byte("\x00\x05\x00\x00\x00\x06\x00\x00\x04\x05\x01\x06\x01\x02\x03\x05\x01\x05"))
	f.Add([]byte("\x00\x50\x01a\x00\x4f\x01a\x04\x4f\x02\x4f\x02\x04\x05\x01\x4f\x02"))
	f.Fuzz(func(t *testing.T, b []byte) {
		x, p := newBox(t), plain{}
		next := func() int {
			if len(b) == 0 {
				return 0
			}
			n := int(b[0])
			b = b[1:]
			return n
		}
		for len(b) > 0 && !t.Failed() {
			switch next() % 6 {
			case 0:
				at, v := next(), value(next(), mixed(next()%40, 1))
				wantErr(t, "Load", x.Load(at, v), p.load(at, v))
			case 1:
				u := one(next(), next(), mixed(next()%40, 2))
				wantErr(t, "Commit", x.Commit(u), p.commit(u))
			case 2:
				if got, want := x.Logged(), p.logged(); got != want {
					t.Errorf("Logged: %t; want %t", got, want)
				}
			case 3:
				at, ver := next(), next()
				if got, want := x.Clean(at, ver), p.clean(at, ver); got != want {
					t.Errorf("Clean(%d, %d): %t; want %t", at, ver, got, want)
				}
			case 4:
				u := []api.Update{{Block: next(), Ver: next(), Data: "a"}, {Block: next(), Ver: next(), Data: "b"}}
				wantErr(t, "Commit of two", x.Commit(u), p.commit(u))
			case 5:
				x.Drop()
				p = plain{}
			}
			if is, want := x.tell(), p.tell(); !is.alike(want) {
				t.Errorf("the cache tells %v; want %v", is, want)
			}
		}
	})
}
