package service_test

import (
	"fmt"
	"math/rand"
	"slices"
	"strings"
	"testing"

	"lagoon/api"
	"lagoon/service"
)

// P10.1: Start of each number of storage nodes that may be, each field; of all others ErrRange, and the zero state (R3).
func TestStart(t *testing.T) {
	for stores, members := range [][]int{1: {0}, 2: {0, 1}, 3: {0, 1, 2}} {
		if stores == 0 {
			continue
		}
		want := api.State{Stores: stores, Config: api.Config{Epoch: 1, Members: members, Since: slices.Repeat([]int{1}, stores)}}
		want.Servers[0].Helper, want.Servers[1].Helper, want.Servers[2].Helper = -1, -1, -1
		x, err := service.Start(stores)
		wantState(t, fmt.Sprintf("Start(%d)", stores), x, want)
		if err != ok || !service.Valid(x) {
			t.Errorf("Start(%d): %d, may be: %v", stores, err, service.Valid(x))
		}
	}
	for _, stores := range append(farOff(), -3, -1, 0, 4, 5, 19) {
		x, err := service.Start(stores)
		wantState(t, fmt.Sprintf("Start(%d)", stores), x, api.State{})
		if err != errRange {
			t.Errorf("Start(%d): %d", stores, err)
		}
	}
}

// change is something that is done with a state that may be.
type change struct {
	what string
	do   func(*api.State)
}

// changes are some that leave a state as it may be, and some that don't, each for one reason.
type changes struct{ just, amiss []change }

// number adds those of a number with bounds: the bounds themselves, and what is past them.
func (all *changes) number(what string, from, to int, set func(*api.State, int)) {
	for _, n := range append(farOff(), from-1, from, to, to+1) {
		c := change{fmt.Sprintf("%s %d", what, n), func(x *api.State) { set(x, n) }}
		if from <= n && n <= to {
			all.just = append(all.just, c)
		} else {
			all.amiss = append(all.amiss, c)
		}
	}
}

// config adds those of a config of three storage nodes: of its numbers, and of its lists as a whole.
func (all *changes) config(what string, of func(*api.State) *api.Config) {
	all.number(what+" Epoch", 5, maxCount, func(x *api.State, n int) { of(x).Epoch = n })
	for i := range 3 {
		all.number(what+" Since", 1, 5, func(x *api.State, n int) { of(x).Epoch, of(x).Since[i] = 5, n })
	}
	for text, may := range map[string]bool{
		"5 0 1": true, "5 2 5": true, "5 01 11": true, "5 20 51": true, "5 120 345": true, "1 102 111": true,
		"0 0 0": false, "0 0 1": false, "-1 0 1": false, "5 0 0": false, "5 0 6": false, "5 012 116": false, "5 012 161": false, "5 012 101": false,
		"5 00 11": false, "5 010 111": false, "5 011 111": false, "5 222 111": false, "5 3 1": false, "5 03 11": false, "5 013 111": false, "5 0123 1111": false, "5 0120 1111": false,
		"5 - -": false, "5 - 1": false, "5 0 -": false, "5 01 1": false, "5 0 11": false, "5 012 1111": false, "5 012 11": false, "0 - 1": false, "0 0 -": false, "1 - -": false, "-1 - -": false,
	} {
		c := change{what + " " + text, func(x *api.State) { *of(x) = parseConfig(text) }}
		if may {
			all.just = append(all.just, c)
		} else {
			all.amiss = append(all.amiss, c)
		}
	}
	for _, n := range append(farOff(), -1) {
		for i := range 3 {
			all.amiss = append(all.amiss, change{fmt.Sprintf("%s member %d", what, n), func(x *api.State) { of(x).Members[i] = n }})
		}
	}
	long := func(epoch, n int) change {
		return change{what + " of long lists", func(x *api.State) {
			*of(x) = api.Config{Epoch: epoch, Members: make([]int, n), Since: slices.Repeat([]int{1}, n)}
		}}
	}
	all.amiss = append(all.amiss, long(5, 4), long(5, 20), long(5, 1<<16), long(0, 1<<16))
}

// parseConfig reads a config from a text: its epoch, its members, since when they are.
func parseConfig(text string) api.Config {
	digits := func(word string) []int {
		l := []int{}
		for _, d := range strings.Trim(word, "-") {
			l = append(l, int(d-'0'))
		}
		return l
	}
	var x api.Config
	var members, since string
	fmt.Sscan(text, &x.Epoch, &members, &since)
	x.Members, x.Since = digits(members), digits(since)
	return x
}

// answer adds those of a server's answer.
func (all *changes) answer(server int) {
	of := func(x *api.State) *api.View { return &x.Servers[server].Answer }
	what := fmt.Sprintf("answer of %d: ", server)
	all.number(what+"Code", 0, 99, func(x *api.State, n int) { of(x).Code = api.Errno(n) })
	all.number(what+"Gen", 0, maxCount, func(x *api.State, n int) { of(x).Gen = n })
	all.config(what+"Config", func(x *api.State) *api.Config { return &of(x).Config })
	for _, i := range []int{0, 1, 18} {
		holds := func(set func(*api.Hold, int)) func(*api.State, int) {
			return func(x *api.State, n int) {
				of(x).Holds = make([]api.Hold, max(2, i+1))
				set(&of(x).Holds[i], n)
			}
		}
		all.number(what+"Lock", 0, 18, holds(func(h *api.Hold, n int) { h.Lock = n }))
		all.number(what+"Mode", 0, 2, holds(func(h *api.Hold, n int) { h.Mode = api.Mode(n) }))
		all.number(what+"Wanted", 0, 2, holds(func(h *api.Hold, n int) { h.Wanted = api.Mode(n) }))
	}
	for i := range 3 {
		deads := func(set func(*api.Dead, int)) func(*api.State, int) {
			return func(x *api.State, n int) {
				of(x).Dead = make([]api.Dead, max(2, i+1))
				set(&of(x).Dead[i], n)
			}
		}
		all.number(what+"Dead", 0, 2, deads(func(d *api.Dead, n int) { d.Server = n }))
		all.number(what+"Fence", 0, maxCount+1, deads(func(d *api.Dead, n int) { d.Fence = n }))
		all.number(what+"its Helper", -1, 2, deads(func(d *api.Dead, n int) { d.Helper = n }))
	}
	for _, n := range []int{0, 1, 18, 19, 20, 21, 1 << 20} {
		c := change{fmt.Sprint(what, n, " holds"), func(x *api.State) { of(x).Holds = make([]api.Hold, n) }}
		if n <= 19 {
			all.just = append(all.just, c)
		} else {
			all.amiss = append(all.amiss, c)
		}
	}
	for _, n := range []int{0, 1, 2, 3, 4, 19, 20, 1 << 20} {
		c := change{fmt.Sprint(what, n, " dead"), func(x *api.State) { of(x).Dead = make([]api.Dead, n) }}
		if n <= 3 {
			all.just = append(all.just, c)
		} else {
			all.amiss = append(all.amiss, c)
		}
	}
	for _, c := range []change{
		{what + "of nothing", func(x *api.State) { *of(x) = api.View{} }},
		{what + "of empty lists", func(x *api.State) {
			*of(x) = api.View{Config: api.Config{Members: []int{}, Since: []int{}}, Holds: []api.Hold{}, Dead: []api.Dead{}}
		}},
	} {
		all.just = append(all.just, c)
	}
}

// member adds those of what is known of a server.
func (all *changes) member(server int) {
	of := func(x *api.State) *api.Member { return &x.Servers[server] }
	what := fmt.Sprintf("server %d: ", server)
	all.number(what+"Status", 0, 2, func(x *api.State, n int) { of(x).Status = api.Status(n) })
	all.number(what+"Gen", 0, maxCount, func(x *api.State, n int) { of(x).Gen = n })
	all.number(what+"Boot", 0, maxCount, func(x *api.State, n int) { of(x).Boot = n })
	all.number(what+"Seq", 0, maxCount, func(x *api.State, n int) { of(x).Seq = n })
	all.number(what+"Expiry", 0, maxTime+lease, func(x *api.State, n int) { of(x).Expiry = n })
	all.number(what+"Helper", -1, 2, func(x *api.State, n int) { of(x).Helper = n })
}

// lock adds those of a lock.
func (all *changes) lock(lock int) {
	what := fmt.Sprintf("lock %d: ", lock)
	set := func(modes [3]api.Mode, waits ...api.Hold) func(*api.State) {
		return func(x *api.State) { x.Holders[lock], x.Queues[lock] = modes, waits }
	}
	for server := range nServers {
		all.number(what+"held", 0, 2, func(x *api.State, n int) {
			set([3]api.Mode{})(x)
			x.Holders[lock][server] = api.Mode(n)
		})
		other := (server + 1) % nServers
		all.number(what+"waits", 1, 2, func(x *api.State, n int) {
			set([3]api.Mode{}, api.Hold{Lock: other, Mode: 2}, api.Hold{Lock: server, Mode: api.Mode(n)})(x)
			x.Holders[lock][3-server-other] = sole
		})
		all.number(what+"who waits", 1, 2, func(x *api.State, n int) { set([3]api.Mode{sole}, api.Hold{Lock: n, Mode: 1})(x) })
		all.number(what+"Wanted", 0, 0, func(x *api.State, n int) {
			set([3]api.Mode{})(x)
			x.Holders[lock][server] = sole
			x.Queues[lock] = []api.Hold{{Lock: other, Mode: 1}, {Lock: 3 - server - other, Mode: 1, Wanted: api.Mode(n)}}
		})
	}
	for _, c := range []change{
		{"held together", set([3]api.Mode{1, 1, 1})}, {"all want it", set([3]api.Mode{1, 1, 1}, api.Hold{Lock: 2, Mode: 2}, api.Hold{Lock: 0, Mode: 2}, api.Hold{Lock: 1, Mode: 2})},
		{"an empty queue", set([3]api.Mode{}, []api.Hold{}...)}, {"a Sole one, others wait", set([3]api.Mode{0, 2, 0}, api.Hold{Lock: 2, Mode: 1}, api.Hold{Lock: 0, Mode: 1})},
	} {
		all.just = append(all.just, change{what + c.what, c.do})
	}
	for _, c := range []change{
		{"Sole twice", set([3]api.Mode{2, 0, 2})}, {"Sole beside Shared", set([3]api.Mode{0, 1, 2})}, {"Shared beside Sole", set([3]api.Mode{2, 1, 0})},
		{"the first one can go", set([3]api.Mode{}, api.Hold{Lock: 2, Mode: 1})}, {"the first one can go beside Shared", set([3]api.Mode{1, 0, 0}, api.Hold{Lock: 2, Mode: 1})}, {"the first one can have more", set([3]api.Mode{1, 0, 0}, api.Hold{Lock: 0, Mode: 2})},
		{"one waits twice", set([3]api.Mode{2, 0, 0}, api.Hold{Lock: 1, Mode: 1}, api.Hold{Lock: 1, Mode: 2})}, {"one waits twice, not side by side", set([3]api.Mode{2, 0, 0}, api.Hold{Lock: 1, Mode: 1}, api.Hold{Lock: 2, Mode: 1}, api.Hold{Lock: 1, Mode: 1})},
		{"one waits for what it has", set([3]api.Mode{1, 1, 0}, api.Hold{Lock: 2, Mode: 2}, api.Hold{Lock: 0, Mode: 1})}, {"a long queue", set([3]api.Mode{2, 0, 0}, slices.Repeat([]api.Hold{{Lock: 1, Mode: 1}}, 1<<16)...)},
	} {
		all.amiss = append(all.amiss, change{what + c.what, c.do})
	}
}

// allChanges are those of each thing of a state, at the first and the last server and lock, and of all lists.
func allChanges() changes {
	var all changes
	all.number("Stores", 3, 3, func(x *api.State, n int) { x.Stores = n })
	all.number("Time", 0, maxTime, func(x *api.State, n int) { x.Time = n })
	all.config("Config", func(x *api.State) *api.Config { return &x.Config })
	all.amiss = append(all.amiss, change{"no Config", func(x *api.State) { x.Config = api.Config{} }})
	for server := range nServers {
		all.member(server)
		all.answer(server)
	}
	for _, lock := range []int{0, 7, 18} {
		all.lock(lock)
	}
	return all
}

// few is a state that may be, with so many storage nodes, which are in all configs.
func few(stores int) api.State {
	return edited(full(), func(x *api.State) {
		x.Stores = stores
		for _, of := range []*api.Config{&x.Config, &x.Servers[0].Answer.Config, &x.Servers[1].Answer.Config, &x.Servers[2].Answer.Config} {
			*of = api.Config{Epoch: 5, Members: []int{2, 1, 0}[3-stores:], Since: []int{1, 2, 5}[3-stores:]}
		}
	})
}

// triple is full, all of whose configs have three members, since 1, 3 and 5.
func triple() api.State {
	return edited(full(), func(x *api.State) {
		for i := range x.Servers {
			x.Servers[i].Answer.Config = clone(*x).Config
		}
	})
}

// wantValid holds Valid against what it should answer, and Encode and Apply, which refuse what may not be.
func wantValid(t *testing.T, what string, x api.State, want bool) {
	t.Helper()
	if got := service.Valid(x); got != want {
		t.Errorf("%s: Valid: %v", what, got)
	}
	if plainValid(x) != want {
		t.Errorf("%s: the plain one says that it may be: %v", what, !want)
	}
	text, err := service.Encode(x)
	if want {
		if err != ok || text != forms(stateNumbers(x)) {
			t.Errorf("%s: Encode: %x, %d", what, text, err)
		}
		wantDecoded(t, text, x, ok)
		return
	}
	if err != errRange || text != "" {
		t.Errorf("%s: Encode: %x, %d", what, text, err)
	}
	for _, c := range []api.Command{mountOf(1, 6, 1), passOf(1), mountOf(0, 6, 9), renewOf(2, 1, 1, 6), {}} {
		y, v := service.Apply(x, c)
		wantView(t, what, v, api.View{Code: errRange})
		if !equal(x, y) {
			t.Errorf("%s: Apply(%+v) changes the state, that may not be", what, c)
		}
	}
}

// P10.1 to P10.3: Valid for each reason by itself, at the bound and past it; Encode and Apply of what may not be.
func TestValid(t *testing.T) {
	wantValid(t, "full", full(), true)
	wantValid(t, "triple", triple(), true)
	wantValid(t, "the zero state", api.State{}, false)
	all := allChanges()
	for _, c := range all.just {
		wantValid(t, c.what, edited(triple(), c.do), true)
	}
	for _, c := range all.amiss {
		wantValid(t, c.what, edited(triple(), c.do), false)
	}
	if len(all.just) < 300 || len(all.amiss) < 1000 {
		t.Errorf("%d changes leave it as it may be, %d don't", len(all.just), len(all.amiss))
	}
}

// P10.1: configs of fewer storage nodes: a member that isn't below Stores, in the state's and in each answer's.
func TestValidStores(t *testing.T) {
	for stores := 1; stores <= 2; stores++ {
		x := few(stores)
		wantValid(t, fmt.Sprint(stores), x, true)
		for n := stores; n <= 3; n++ {
			for i := range 4 {
				y := edited(x, func(y *api.State) {
					configs := []*api.Config{&y.Config, &y.Servers[0].Answer.Config, &y.Servers[1].Answer.Config, &y.Servers[2].Answer.Config}
					configs[i].Members[len(configs[i].Members)-1] = n
				})
				wantValid(t, fmt.Sprint(stores, " stores, member ", n), y, false)
			}
			wantValid(t, fmt.Sprint(stores, " of ", n), edited(x, func(x *api.State) { x.Stores = n }), n <= 3 && n >= stores)
		}
		for _, n := range append(farOff(), -1, 0, 4) {
			wantValid(t, fmt.Sprint("stores ", n), edited(x, func(x *api.State) { x.Stores = n }), false)
		}
	}
	wantValid(t, "one of two", edited(few(2), func(x *api.State) { x.Stores = 1 }), false)
}

// P10.3: the bytes of states, written down.
func TestEncodeRows(t *testing.T) {
	const nobody = "\x00\x00\x00\x00\x00\x00\x00\x00\x00\x00\x00\x00\x00"
	locks := strings.Repeat("\x00\x00\x00\x00", 19)
	for stores, text := range []string{1: "\x01\x00\x01\x01\x00\x01\x01", 2: "\x02\x00\x01\x02\x00\x01\x02\x01\x01", 3: "\x03\x00\x01\x03\x00\x01\x02\x03\x01\x01\x01"} {
		if stores > 0 {
			wantBytes(t, begin(t, stores), text+nobody+nobody+nobody+locks)
		}
	}
	x := run(t, begin(t, 2), passOf(300), mountOf(0, 1, 1), mountOf(1, 2, 1), lockOf(0, 1, 2, 1, 0, shared), lockOf(1, 2, 2, 1, 0, sole), lockOf(1, 2, 3, 1, 18, sole))
	x, _ = service.Apply(x, mountOf(0, 3, 1))
	head := "\x02\xac\x02\x01\x02\x00\x01\x02\x01\x01"
	first := "\x02\x01\xe8\x02\x00\x03\x01" + "\x1b\x01\x01\x02\x00\x01\x02\x01\x01" + "\x00" + "\x01\x00\x02\x00"
	second := "\x01\x01\xe8\x02\x00\x02\x03" + "\x00\x01\x01\x02\x00\x01\x02\x01\x01" + "\x01\x12\x02\x00" + "\x00"
	third := "\x00\x00\x00\x00\x00\x00" + "\x00\x00\x00\x00\x00" + "\x00" + "\x00"
	wantBytes(t, x, head+first+second+third+"\x01\x00\x00\x01\x01\x02"+strings.Repeat("\x00\x00\x00\x00", 17)+"\x00\x02\x00\x00")
}

// wantBytes holds Encode and Decode against the bytes that a state should have.
func wantBytes(t *testing.T, x api.State, text string) {
	t.Helper()
	if got, err := service.Encode(x); got != text || err != ok {
		t.Errorf("Encode(%s): %x, %d; want %x", show(x), got, err, text)
	}
	wantDecoded(t, text, x, ok)
}

// wantDecoded holds what Decode answers against what it should.
func wantDecoded(t *testing.T, text string, want api.State, wantErr api.Errno) {
	t.Helper()
	x, err := service.Decode(text)
	if err != wantErr || !equal(x, want) {
		t.Errorf("Decode(%x): %s, %d; want %s, %d", text, show(x), err, show(want), wantErr)
	}
}

// wantPlain holds what Decode answers against what the plain one does: ErrForm, or the state whose bytes are just these. It tells whether there is one.
func wantPlain(t *testing.T, text string) bool {
	t.Helper()
	want, wantErr := plainDecode(text)
	wantDecoded(t, text, want, wantErr)
	if wantErr == ok && forms(stateNumbers(want)) != text {
		t.Errorf("the plain one takes %x for %s", text, show(want))
	}
	return wantErr == ok
}

// P10.3, P10.6: there and back, of states at random, and of all texts that become of them by a fault.
func TestDecode(t *testing.T) {
	rnd := rand.New(rand.NewSource(4))
	states := []api.State{full(), few(1), begin(t, 1), begin(t, 3)}
	for range 6 {
		states = append(states, randomState(rnd))
	}
	good := 0
	for _, x := range states {
		text, err := service.Encode(x)
		if err != ok || text != forms(stateNumbers(x)) {
			t.Errorf("Encode(%s): %x, %d", show(x), text, err)
		}
		wantDecoded(t, text, x, ok)
		for i := range text {
			wantDecoded(t, text[:i], api.State{}, errForm)
		}
		for _, more := range []string{"\x00", "\x01", "\x80", text} {
			wantDecoded(t, text+more, api.State{}, errForm)
		}
		for _, s := range spoilt(text, stateNumbers(x)) {
			if wantPlain(t, s) {
				good++
			}
		}
	}
	if good < 1000 {
		t.Errorf("of the spoilt texts %d are a state's", good)
	}
	for range 2000 {
		x := randomState(rnd)
		wantBytes(t, x, forms(stateNumbers(x)))
	}
}

// P10.3: the bytes of states that may not be, and of no state: ErrForm, and the zero state (R3).
func TestDecodeAmiss(t *testing.T) {
	for _, c := range allChanges().amiss {
		x := edited(triple(), c.do)
		numbers := stateNumbers(x)
		if slices.Min(numbers) < 0 || len(numbers) > 1000 || strings.Contains(c.what, "Wanted") && strings.HasPrefix(c.what, "lock") {
			continue // no bytes are laid so: of numbers below 0, and of a queue's Wanted, there is no form
		}
		wantDecoded(t, forms(numbers), api.State{}, errForm)
	}
	zeros := forms(make([]int, 126))
	for _, s := range []string{"", "\x00", "\x01", "\x80", "state", zeros, zeros[1:], "\x01" + zeros[1:], strings.Repeat("\x01", 1<<20), strings.Repeat("\xff", 100)} {
		wantDecoded(t, s, api.State{}, errForm)
	}
}

// P10.3: lists that are told to be longer than any may be, or than the text is: in each list's place, with as many numbers behind it, and without.
func TestDecodeLongLists(t *testing.T) {
	x := begin(t, 1)
	numbers := stateNumbers(x)
	for i := range numbers {
		head, tail := forms(numbers[:i]), forms(numbers[i+1:])
		for _, n := range []int{4, 5, 19, 20, 21, 22, 100, 1 << 20, 1 << 40, 1<<63 - 1} {
			wantPlain(t, head+forms([]int{n}))
			wantPlain(t, head+forms([]int{n})+tail)
			for _, width := range []int{1, 2, 3} {
				many := min(n, 1000) * width
				wantPlain(t, head+forms([]int{n})+strings.Repeat("\x00", many)+tail)
				wantPlain(t, head+forms([]int{n})+strings.Repeat("\x01", many)+tail)
			}
		}
	}
}

// P10.3: bytes at random, many of them small, behind the beginning of a state's.
func TestDecodeRandom(t *testing.T) {
	rnd := rand.New(rand.NewSource(5))
	for range 20000 {
		b := make([]byte, rnd.Intn(160))
		for i := range b {
			b[i] = oneOf(rnd, byte(rnd.Intn(256)), byte(rnd.Intn(4)), byte(rnd.Intn(4)), 0, 0, 0, 0, 0)
		}
		wantPlain(t, string(b))
		text := forms(stateNumbers(begin(t, 1)))
		wantPlain(t, text[:rnd.Intn(len(text))]+string(b))
	}
}

// P10.3: any bytes: ErrForm, or the state whose bytes are just these.
func FuzzDecode(f *testing.F) {
	for _, x := range []api.State{full(), few(1), few(2)} {
		f.Add(forms(stateNumbers(x)))
	}
	f.Add("no state")
	f.Fuzz(func(t *testing.T, s string) { wantPlain(t, s) })
}
