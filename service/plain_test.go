package service_test

import (
	"encoding/binary"
	"math"
	"reflect"
	"slices"
	"strings"

	"lagoon/api"
	"lagoon/chain"
	"lagoon/locks"
)

// The numbers, as the document tells them.
const (
	nServers = 3
	nLocks   = 19
	maxTime  = 1 << 52
	maxCount = 1 << 40
	maxPass  = 1 << 20
	lease    = 60

	absent api.Status = 0
	alive  api.Status = 1
	gone   api.Status = 2

	free   api.Mode = 0
	shared api.Mode = 1
	sole   api.Mode = 2

	ok         api.Errno = 0
	errRange   api.Errno = 2
	errForm    api.Errno = 11
	errWorn    api.Errno = 15
	errTime    api.Errno = 18
	errLost    api.Errno = 23
	errStale   api.Errno = 25
	errDead    api.Errno = 27
	errHeld    api.Errno = 28
	errUnknown api.Errno = 29

	kMount  api.CmdKind = 1
	kRenew  api.CmdKind = 2
	kLock   api.CmdKind = 3
	kUnlock api.CmdKind = 4
	kHelp   api.CmdKind = 5
	kDone   api.CmdKind = 6
	kChain  api.CmdKind = 7
	kPass   api.CmdKind = 8
)

// farOff are numbers that are far beside all bounds.
func farOff() []int {
	return []int{math.MinInt, math.MinInt + 1, -1 << 53, -1 << 41, -1 << 32, -256, -2, 256, 1<<32 + 1<<41, 1<<32 + 1<<53, 1 << 62, math.MaxInt - 1, math.MaxInt}
}

// between as it reads.
func between(n, from, to int) bool {
	return n >= from && n <= to
}

// fieldsUsed are those that a kind of commands uses, by the chapter's table.
func fieldsUsed(kind api.CmdKind) (string, bool) {
	uses, is := map[api.CmdKind]string{
		kMount:  "Server Boot Seq",
		kRenew:  "Server Boot Seq Gen",
		kLock:   "Server Boot Seq Gen Lock Mode",
		kUnlock: "Server Boot Seq Gen Lock",
		kHelp:   "Server Boot Seq Gen Other",
		kDone:   "Server Boot Seq Gen Other",
		kChain:  "Server Boot Seq Gen Members",
		kPass:   "",
	}[kind]
	return uses, is
}

// fieldBounds are the least and the greatest number of a field that is used.
func fieldBounds() map[string][2]int {
	return map[string][2]int{"Server": {0, 2}, "Boot": {1, maxCount}, "Seq": {1, maxCount}, "Gen": {0, maxCount}, "Lock": {0, 18}, "Mode": {1, 2}, "Other": {0, 2}}
}

// plainValidCommand as the Words tell it.
func plainValidCommand(c api.Command) bool {
	uses, is := fieldsUsed(c.Kind)
	if !is || c.D < 0 || c.D > maxPass || c.Kind == kPass && c.D == 0 {
		return false
	}
	for name, b := range fieldBounds() {
		n := int(reflect.ValueOf(c).FieldByName(name).Int())
		if slices.Contains(strings.Fields(uses), name) {
			if !between(n, b[0], b[1]) {
				return false
			}
		} else if n != 0 {
			return false
		}
	}
	if c.Kind != kChain {
		return len(c.Members) == 0
	}
	return between(len(c.Members), 1, 3) && len(slices.DeleteFunc(slices.Clone(c.Members), func(m int) bool { return between(m, 0, 2) })) == 0
}

// plainConfigMayBe as layer 8's Words tell it.
func plainConfigMayBe(x api.Config, stores int) bool {
	seen := map[int]int{}
	for _, m := range x.Members {
		if !between(m, 0, stores-1) {
			return false
		}
		seen[m]++
	}
	for _, s := range x.Since {
		if !between(s, 1, x.Epoch) {
			return false
		}
	}
	return between(x.Epoch, 1, maxCount) && len(seen) > 0 && len(seen) == len(x.Members) && len(x.Since) == len(x.Members)
}

// plainAnswerMayBe as the Words tell it.
func plainAnswerMayBe(v api.View, stores int) bool {
	noConfig := v.Config.Epoch == 0 && len(v.Config.Members)+len(v.Config.Since) == 0
	for _, h := range v.Holds {
		if !between(h.Lock, 0, 18) || !between(int(h.Mode), 0, 2) || !between(int(h.Wanted), 0, 2) {
			return false
		}
	}
	for _, d := range v.Dead {
		if !between(d.Server, 0, 2) || !between(d.Fence, 0, maxCount+1) || !between(d.Helper, -1, 2) {
			return false
		}
	}
	return between(int(v.Code), 0, 99) && between(v.Gen, 0, maxCount) && (noConfig || plainConfigMayBe(v.Config, stores)) && len(v.Holds) <= nLocks && len(v.Dead) <= 3
}

// plainValid as the Words tell it.
func plainValid(x api.State) bool {
	for _, m := range x.Servers {
		if !between(int(m.Status), 0, 2) || !between(m.Gen, 0, maxCount) || !between(m.Boot, 0, maxCount) || !between(m.Seq, 0, maxCount) {
			return false
		}
		if !between(m.Expiry, 0, maxTime+lease) || !between(m.Helper, -1, 2) || !plainAnswerMayBe(m.Answer, x.Stores) {
			return false
		}
	}
	return between(x.Stores, 1, 3) && between(x.Time, 0, maxTime) && plainConfigMayBe(x.Config, x.Stores) && locks.Valid(x)
}

// plainView as the Words tell it, with a Code.
func plainView(x api.State, server int, code api.Errno) api.View {
	v := api.View{Code: code, Gen: x.Servers[server].Gen, Config: x.Config}
	if x.Servers[server].Status == alive {
		v.Holds = locks.Holds(x, server)
	}
	for s := range nServers {
		if x.Servers[s].Status == gone {
			v.Dead = append(v.Dead, api.Dead{Server: s, Fence: x.Servers[s].Gen + 1, Helper: x.Servers[s].Helper})
		}
	}
	return cloneView(v)
}

// plainPass is time passing, as P10.2 tells it.
func plainPass(x api.State, d int) (api.State, api.Errno) {
	if x.Time > maxTime-d {
		return x, errTime
	}
	x.Time += d
	for s, m := range x.Servers {
		if m.Status == alive && x.Time > m.Expiry {
			x.Servers[s].Status, x.Servers[s].Helper = gone, -1
		}
	}
	return x, ok
}

// plainApply as P10.2 tells it.
func plainApply(x api.State, c api.Command) (api.State, api.View) {
	x = clone(x)
	if !plainValid(x) || !plainValidCommand(c) {
		return x, api.View{Code: errRange}
	}
	y, err := plainPass(x, c.D)
	if c.Kind == kPass {
		return y, api.View{Code: err}
	}
	m := x.Servers[c.Server]
	switch {
	case c.Boot < m.Boot, c.Boot == m.Boot && c.Seq < m.Seq, c.Boot == m.Boot && c.Seq > m.Seq+1, c.Boot > m.Boot && c.Seq > 1:
		return x, api.View{Code: errStale}
	case c.Boot == m.Boot && c.Seq == m.Seq:
		return x, cloneView(m.Answer)
	case err != ok:
		return x, api.View{Code: err}
	}
	y, code := plainDo(y, c)
	y.Servers[c.Server].Boot, y.Servers[c.Server].Seq = c.Boot, c.Seq
	v := plainView(y, c.Server, code)
	y.Servers[c.Server].Answer = v
	return clone(y), v
}

// plainDo is what a command does behind time's passing, as P10.2's list tells it.
func plainDo(x api.State, c api.Command) (api.State, api.Errno) {
	m := &x.Servers[c.Server]
	lives := m.Status == alive && m.Gen == c.Gen
	switch c.Kind {
	case kMount:
		if m.Status != absent {
			if m.Status == alive {
				m.Status, m.Helper = gone, -1
			}
			return x, errDead
		}
		if m.Gen >= maxCount {
			return x, errWorn
		}
		m.Status, m.Gen, m.Expiry, m.Helper = alive, m.Gen+1, x.Time+lease, -1
		return x, ok
	case kHelp, kDone:
		return plainHelp(x, c, lives)
	}
	if !lives {
		return x, errDead
	}
	switch c.Kind {
	case kRenew:
		m.Expiry = x.Time + lease
		return x, ok
	case kLock:
		return locks.Ask(x, c.Lock, c.Server, c.Mode)
	case kUnlock:
		return locks.Free(x, c.Lock, c.Server)
	}
	next, err := chain.Next(x.Config, c.Members)
	if err == ok && slices.Max(c.Members) >= x.Stores {
		err = errRange
	}
	if err == ok {
		x.Config = next
	}
	return x, err
}

// plainHelp is what CmdHelp and CmdDone do, as P10.2's list tells it.
func plainHelp(x api.State, c api.Command, lives bool) (api.State, api.Errno) {
	o := &x.Servers[c.Other]
	if c.Other != c.Server && !lives {
		return x, errDead
	}
	if o.Status != gone {
		return x, errUnknown
	}
	if c.Kind == kHelp {
		if o.Helper != -1 && o.Helper != c.Server && o.Helper != c.Other && x.Servers[o.Helper].Status == alive {
			return x, errHeld
		}
		o.Helper = c.Server
		return x, ok
	}
	if o.Helper != c.Server {
		return x, errUnknown
	}
	o.Status, o.Helper = absent, -1
	return locks.Drop(x, c.Other), ok
}

// numbersOf are the numbers of a command whose forms are its bytes, as P10.3 tells them.
func numbersOf(c api.Command) []int {
	l := []int{int(c.Kind), c.Server, c.Boot, c.Seq, c.Gen, c.Lock, int(c.Mode), c.Other, len(c.Members)}
	l = append(l, c.Members...)
	return append(l, c.D)
}

// configNumbers are those of a config, as P10.3 tells them.
func configNumbers(x api.Config) []int {
	return slices.Concat([]int{x.Epoch, len(x.Members)}, x.Members, []int{len(x.Since)}, x.Since)
}

// stateNumbers are those of a state, as P10.3 tells them.
func stateNumbers(x api.State) []int {
	l := append([]int{x.Stores, x.Time}, configNumbers(x.Config)...)
	for _, m := range x.Servers {
		l = append(l, int(m.Status), m.Gen, m.Expiry, m.Helper+1, m.Boot, m.Seq, int(m.Answer.Code), m.Answer.Gen)
		l = append(l, configNumbers(m.Answer.Config)...)
		l = append(l, len(m.Answer.Holds))
		for _, h := range m.Answer.Holds {
			l = append(l, h.Lock, int(h.Mode), int(h.Wanted))
		}
		l = append(l, len(m.Answer.Dead))
		for _, d := range m.Answer.Dead {
			l = append(l, d.Server, d.Fence, d.Helper+1)
		}
	}
	for lock, held := range x.Holders {
		l = append(l, int(held[0]), int(held[1]), int(held[2]), len(x.Queues[lock]))
		for _, h := range x.Queues[lock] {
			l = append(l, h.Lock, int(h.Mode))
		}
	}
	return l
}

// forms are the bytes of numbers (layer 1).
func forms(numbers []int) string {
	var b []byte
	for _, n := range numbers {
		b = binary.AppendUvarint(b, uint64(n))
	}
	return string(b)
}

// numbersIn are the numbers whose forms a text is, and whether it is.
func numbersIn(s string) ([]int, bool) {
	var l []int
	for len(s) > 0 {
		n, size := binary.Uvarint([]byte(s))
		if size <= 0 || size > 9 || size > 1 && s[size-1] == 0 {
			return nil, false
		}
		l, s = append(l, int(n)), s[size:]
	}
	return l, true
}

// tray gives numbers out, one by one.
type tray struct {
	numbers []int
	short   bool
}

func (y *tray) next() int {
	if len(y.numbers) == 0 {
		y.short = true
		return 0
	}
	n := y.numbers[0]
	y.numbers = y.numbers[1:]
	return n
}

// several gives out how many, and then so many.
func (y *tray) several(one func()) {
	n := y.next()
	if n > len(y.numbers) {
		y.short = true
		return
	}
	for range n {
		one()
	}
}

func (y *tray) list() (l []int) {
	y.several(func() { l = append(l, y.next()) })
	return l
}

func (y *tray) config() api.Config {
	epoch, members := y.next(), y.list()
	return api.Config{Epoch: epoch, Members: members, Since: y.list()}
}

func (y *tray) member() api.Member {
	m := api.Member{Status: api.Status(y.next())}
	m.Gen, m.Expiry, m.Helper = y.next(), y.next(), y.next()-1
	m.Boot, m.Seq = y.next(), y.next()
	a := &m.Answer
	a.Code, a.Gen, a.Config = api.Errno(y.next()), y.next(), y.config()
	y.several(func() {
		h := api.Hold{Lock: y.next()}
		h.Mode, h.Wanted = api.Mode(y.next()), api.Mode(y.next())
		a.Holds = append(a.Holds, h)
	})
	y.several(func() {
		d := api.Dead{Server: y.next()}
		d.Fence, d.Helper = y.next(), y.next()-1
		a.Dead = append(a.Dead, d)
	})
	return m
}

// plainDecodeCommand as P10.3 tells it.
func plainDecodeCommand(s string) (api.Command, api.Errno) {
	l, is := numbersIn(s)
	y := tray{numbers: l}
	c := api.Command{Kind: api.CmdKind(y.next())}
	for _, field := range []*int{&c.Server, &c.Boot, &c.Seq, &c.Gen, &c.Lock} {
		*field = y.next()
	}
	c.Mode, c.Other, c.Members, c.D = api.Mode(y.next()), y.next(), y.list(), y.next()
	if !is || y.short || len(y.numbers) > 0 || !plainValidCommand(c) {
		return api.Command{}, errForm
	}
	return c, ok
}

// plainDecode as P10.3 tells it.
func plainDecode(s string) (api.State, api.Errno) {
	l, is := numbersIn(s)
	y := tray{numbers: l}
	x := api.State{Stores: y.next()}
	x.Time, x.Config = y.next(), y.config()
	for i := range x.Servers {
		x.Servers[i] = y.member()
	}
	for lock := range nLocks {
		x.Holders[lock] = [3]api.Mode{api.Mode(y.next()), api.Mode(y.next()), api.Mode(y.next())}
		y.several(func() {
			h := api.Hold{Lock: y.next()}
			h.Mode = api.Mode(y.next())
			x.Queues[lock] = append(x.Queues[lock], h)
		})
	}
	if !is || y.short || len(y.numbers) > 0 || !plainValid(x) {
		return api.State{}, errForm
	}
	return x, ok
}
