package client_test

import (
	"math"
	"strings"
	"testing"

	"lagoon/api"
	"lagoon/client"
)

// good are commands of each kind that may be asked for, with their fields at the edges.
func good() []api.Command {
	return []api.Command{
		mount(),
		renew(0), renew(1), renew(maxCount),
		lock(0, 0, 1), lock(1, 18, 2), lock(maxCount, 7, 1),
		unlock(0, 0), unlock(1, 18), unlock(maxCount, 7),
		help(0, 0), help(1, 2), help(maxCount, 1),
		done(0, 0), done(1, 2), done(maxCount, 1),
		members(0, 0), members(1, 2, 0), members(maxCount, 0, 1, 2), members(1, 1, 1), members(1, 2, 2, 2),
	}
}

// change is one that makes a command such as may not be asked for.
type change struct {
	what string
	do   func(*api.Command)
}

// fieldChanges are those of each kind's fields that are out of their bounds, whether the kind uses them or not.
func fieldChanges() []change {
	return []change{
		{"Gen -1", func(c *api.Command) { c.Gen = -1 }},
		{"Gen least", func(c *api.Command) { c.Gen = math.MinInt }},
		{"Gen 2^40 + 1", func(c *api.Command) { c.Gen = maxCount + 1 }},
		{"Lock -1", func(c *api.Command) { c.Lock = -1 }},
		{"Lock 19", func(c *api.Command) { c.Lock = 19 }},
		{"Lock greatest", func(c *api.Command) { c.Lock = math.MaxInt }},
		{"Mode -1", func(c *api.Command) { c.Mode = -1 }},
		{"Mode 3", func(c *api.Command) { c.Mode = 3 }},
		{"Other -1", func(c *api.Command) { c.Other = -1 }},
		{"Other 3", func(c *api.Command) { c.Other = 3 }},
		{"a member -1", func(c *api.Command) { c.Members = []int{0, -1} }},
		{"a member 3", func(c *api.Command) { c.Members = []int{3} }},
		{"four members", func(c *api.Command) { c.Members = []int{0, 1, 2, 0} }},
		{"many members", func(c *api.Command) { c.Members = make([]int, 1<<16) }},
		{"D -1", func(c *api.Command) { c.D = -1 }},
		{"D 1", func(c *api.Command) { c.D = 1 }},
		{"D 2^20", func(c *api.Command) { c.D = 1 << 20 }},
		{"D 2^20 + 1", func(c *api.Command) { c.D = 1<<20 + 1 }},
		{"D greatest", func(c *api.Command) { c.D = math.MaxInt }},
		{"no kind", func(c *api.Command) { c.Kind = 0 }},
		{"kind -1", func(c *api.Command) { c.Kind = -1 }},
		{"kind 9", func(c *api.Command) { c.Kind = 9 }},
		{"kind 10", func(c *api.Command) { c.Kind = 10 }},
		{"least kind", func(c *api.Command) { c.Kind = math.MinInt }},
		{"greatest kind", func(c *api.Command) { c.Kind = math.MaxInt }},
		{"kind 8", func(c *api.Command) { c.Kind = kPass }},
	}
}

// P13.2: Ask of every kind, with its fields at the edges: MsgRequest goes to the peer, it is open, first and last sent now, and its number is the last one.
func TestAsk(t *testing.T) {
	for server := range 3 {
		for _, now := range []int{0, 1, 5, 1 << 32, maxTime - 1, maxTime} {
			r := made(t, server, 1+server, 3)
			for i, x := range good() {
				r.wantAsked(now, x, i*i%3, i+1)
				r.wantTaken("Take", r.answer((i+1)*(i+1)%3, i+1, someView()), now)
			}
		}
	}
}

// P13.2: no moment needs to be behind the ones before.
func TestAskEarlier(t *testing.T) {
	r := made(t, 0, 1, 3)
	for i, now := range []int{100, 0, maxTime, 5, 5, 4} {
		r.wantAsked(now, renew(1), 0, i+1)
		r.wantTaken("Take", r.answer(0, i+1, someView()), now)
	}
}

// wantRefused wants a command to be refused with ErrKind, also while a request is open, and with ErrRange, where now is no time.
func wantRefused(t *testing.T, what string, x api.Command) {
	t.Helper()
	idle, busy := made(t, 1, 2, 3), made(t, 1, 2, 3)
	busy.wantAsked(50, renew(3), 0, 1)
	for _, r := range []*rig{idle, busy} {
		r.wantUnasked(what, 60, x, errKind)
		r.wantUnasked(what, maxTime+1, x, errRange)
		r.wantUnasked(what, -1, x, errRange)
	}
	idle.wantAsked(61, renew(4), 0, 1)
	busy.wantOpen(what, renew(3), 1, 0, 50, 50)
}

// P13.2: ErrKind of a command that may not be, or has another D than 0; ahead of ErrBusy, behind ErrRange; the next request has the number that it would have had.
func TestAskKind(t *testing.T) {
	for _, x := range good() {
		for _, c := range fieldChanges() {
			y := x
			c.do(&y)
			wantRefused(t, c.what, y)
		}
	}
}

// P13.2: every kind from -1 to 10 alone, with no other field: some of them use none, the others may not be.
func TestAskKinds(t *testing.T) {
	may := map[api.CmdKind]bool{kMount: true, kRenew: true, kUnlock: true, kHelp: true, kDone: true}
	for kind := api.CmdKind(-1); kind <= 10; kind++ {
		x := api.Command{Kind: kind}
		if may[kind] {
			made(t, 0, 1, 1).wantAsked(9, x, 0, 1)
		} else {
			wantRefused(t, "a kind alone", x)
		}
	}
}

// P13.2: ErrKind, if a kind doesn't use a field that isn't zero, though it would be good of another kind.
func TestAskUnused(t *testing.T) {
	fields := map[string]func(*api.Command){
		"Gen":     func(c *api.Command) { c.Gen = 1 },
		"Lock":    func(c *api.Command) { c.Lock = 1 },
		"Mode":    func(c *api.Command) { c.Mode = 1 },
		"Other":   func(c *api.Command) { c.Other = 1 },
		"Members": func(c *api.Command) { c.Members = []int{0} },
	}
	uses := map[api.CmdKind]string{kMount: "", kRenew: "Gen", kLock: "Gen Lock Mode", kUnlock: "Gen Lock", kHelp: "Gen Other", kDone: "Gen Other", kChain: "Gen Members"}
	for _, x := range []api.Command{mount(), renew(2), lock(2, 5, 2), unlock(2, 5), help(2, 2), done(2, 2), members(2, 1, 2)} {
		for name, do := range fields {
			y := x
			do(&y)
			if strings.Contains(uses[x.Kind], name) {
				made(t, 0, 1, 1).wantAsked(9, y, 0, 1)
			} else {
				wantRefused(t, name+" isn't used", y)
			}
		}
	}
	for _, x := range []api.Command{lock(1, 3, 0), {Kind: kChain, Gen: 1}, members(1, []int{}...)} {
		wantRefused(t, "a field that is used is none", x)
	}
}

// P13.2: CmdPass is nothing that a server asks for, however it is made.
func TestAskPass(t *testing.T) {
	for _, x := range []api.Command{{Kind: kPass}, {Kind: kPass, D: 1}, {Kind: kPass, D: 1 << 20}, {Kind: kPass, Server: 1, Boot: 2, Seq: 1}, {Kind: kPass, Server: 1, Boot: 2, Seq: 1, D: 1}, {Kind: kPass, Gen: 1}} {
		wantRefused(t, "CmdPass", x)
	}
}

// P13.2: Server, Boot and Seq of a command that is handed in are replaced by the client's, whatever they are.
func TestAskReplaces(t *testing.T) {
	numbers := []int{math.MinInt, -1, 0, 1, 2, 3, 7, maxCount, maxCount + 1, math.MaxInt}
	r := made(t, 2, 7, 3)
	seq := 1
	for _, server := range numbers {
		for _, boot := range numbers {
			for _, n := range numbers {
				x := lock(1, 3, 2)
				x.Server, x.Boot, x.Seq = server, boot, n
				out, err := r.Ask(5, x)
				r.wantOut("Ask", out, err, r.request(0, lock(1, 3, 2), seq))
				if c, is := r.Open(); !is || !equalCommands(c, r.own(lock(1, 3, 2), seq)) {
					t.Errorf("Open: %+v, %v", c, is)
				}
				if _, _, is := r.Take(r.answer(0, seq, api.View{})); !is {
					t.Errorf("Take of answer %d: false", seq)
				}
				seq++
			}
		}
	}
}

// P13.2: ErrRange where now is no time, ahead of ErrKind and ErrBusy.
func TestAskTime(t *testing.T) {
	idle, busy := made(t, 0, 1, 3), made(t, 0, 1, 3)
	busy.wantAsked(3, mount(), 0, 1)
	for _, now := range badTimes {
		for _, x := range []api.Command{mount(), {}, {Kind: kPass, D: 1}, {Kind: kMount, D: 1}} {
			idle.wantUnasked("no time", now, x, errRange)
			busy.wantUnasked("no time, and one is open", now, x, errRange)
		}
	}
	idle.wantAsked(0, mount(), 0, 1)
	idle.wantTaken("Take", idle.answer(2, 1, someView()), 0)
	idle.wantAsked(maxTime, renew(1), 2, 2)
}

// P13.2: ErrBusy while a request is open, of every command that may be, at every moment, however often it was sent, till its answer has come.
func TestAskBusy(t *testing.T) {
	r := made(t, 1, 1, 3)
	r.wantAsked(10, mount(), 0, 1)
	for i := range 4 {
		for _, x := range good() {
			for _, now := range []int{0, 10, 16, 1000, maxTime} {
				r.wantUnasked("one is open", now, x, errBusy)
			}
		}
		r.wantTended("Tend", 16+retry*i, r.request((i+1)%3, mount(), 1))
	}
	r.wantUntaken("another answer", r.answer(0, 2, someView()))
	r.wantUnasked("one is open", 50, renew(1), errBusy)
	r.wantTaken("Take", r.answer(2, 1, someView()), 10)
	r.wantAsked(50, renew(1), 2, 2)
}

// P13.2: at a last number of 2^40 there is no next one: ErrRange, ahead of ErrKind and ErrBusy; the one below has it.
func TestAskLastNumber(t *testing.T) {
	for _, n := range []int{maxCount - 2, maxCount - 1, maxCount} {
		r := made(t, 1, maxCount, 2)
		client.SetNumber(r.Client, n)
		for seq := n + 1; seq <= maxCount; seq++ {
			r.wantUnasked("no kind", 20, api.Command{}, errKind)
			r.wantAsked(20, renew(1), 0, seq)
			if seq < maxCount {
				r.wantUnasked("one is open", 21, renew(1), errBusy)
			} else {
				r.wantUnasked("one is open, and no number is left", 21, renew(1), errRange)
				r.wantUnasked("no kind, one is open, and no number is left", 21, api.Command{}, errRange)
			}
			r.wantTended("Tend", 26, r.request(1, renew(1), seq))
			r.wantTaken("Take", r.answer(0, seq, someView()), 20)
		}
		for range 2 {
			for _, x := range append(good(), api.Command{}, api.Command{Kind: kPass, D: 1}, api.Command{Kind: kMount, D: 1}) {
				r.wantUnasked("no number is left", 30, x, errRange)
			}
		}
		r.wantUntended("no number is left", 50, ok)
		r.wantIdle("no number is left", 0, -1)
	}
}

// P13.2, P13.5: an Ask that is refused uses no number, whyever it was refused.
func TestAskRefusedUsesNone(t *testing.T) {
	r := made(t, 0, 3, 3)
	for seq := 1; seq <= 5; seq++ {
		r.wantUnasked("no time", -1, mount(), errRange)
		r.wantUnasked("no kind", 5, api.Command{Kind: 9}, errKind)
		r.wantUnasked("a D", 5, api.Command{Kind: kMount, D: 1}, errKind)
		r.wantAsked(5, mount(), 0, seq)
		for range seq {
			r.wantUnasked("busy", 5, mount(), errBusy)
			r.wantUnasked("no kind", 5, api.Command{}, errKind)
			r.wantUnasked("no time", maxTime+1, mount(), errRange)
		}
		r.wantTaken("Take", r.answer(0, seq, someView()), 5)
	}
}
