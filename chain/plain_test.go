package chain_test

import (
	"fmt"
	"math"
	"math/rand"
	"slices"
	"testing"

	"lagoon/api"
	"lagoon/chain"
)

// The numbers, as the document tells them.
const (
	nStores  = 3
	nBlocks  = 128
	nServers = 3
	maxBlock = 44
	maxCount = 1 << 40
)

// The errors, as the document tells them.
const (
	ok       api.Errno = 0
	errNil   api.Errno = 1
	errRange api.Errno = 2
	errWorn  api.Errno = 15
	errEpoch api.Errno = 21
	errFence api.Errno = 22
	errLost  api.Errno = 23
	errDown  api.Errno = 24
	errStale api.Errno = 25
	errBusy  api.Errno = 26
	errNode  api.Errno = 30
)

// disk is what a chain is, and the plain one as well.
type disk interface {
	Write(x api.Config, b int, data string, server, gen int) api.Errno
	Read(x api.Config, b int) (api.Cell, api.Errno)
	Fence(x api.Config, server, gen int) api.Errno
	Fail(i int) api.Errno
	Arm(i, k int) api.Errno
	Revive(i, keep int, torn bool) api.Errno
	Up(i int) bool
	Len() int
	Block(i, b int) api.Cell
	Meta(i int) api.Meta
	Writes(i int) int
}

// state is what stands in one storage node.
type state struct {
	blocks [nBlocks]api.Cell
	meta   api.Meta
}

// plainNode is a storage node as chapters 4 to 7 tell it, without its sectors.
type plainNode struct {
	now    state
	hung   *state // what would stand, were the write that the power failed in kept
	up     bool
	armed  int // -1: it isn't
	writes int
}

// put makes one change, in one write.
func (n *plainNode) put(change func(*state)) api.Errno {
	next := n.now
	change(&next)
	n.writes++
	if n.armed == 0 {
		n.hung, n.up, n.armed = &next, false, -1
		return errDown
	}
	n.armed = max(n.armed-1, -1)
	n.now = next
	return ok
}

// load as P7.2 tells it.
func (n *plainNode) load(b int, x api.Cell) api.Errno {
	if n.now.blocks[b] == x {
		return ok
	}
	return n.put(func(s *state) { s.blocks[b] = x })
}

// apply as P7.2 tells it.
func (n *plainNode) apply(b int, x api.Cell, server, gen int) api.Errno {
	switch {
	case n.now.meta.Fences[server] > gen:
		return errFence
	case n.now.blocks[b] == x:
		return ok
	case n.now.blocks[b].Seq >= x.Seq:
		return errStale
	}
	return n.load(b, x)
}

// fence as P7.3 tells it.
func (n *plainNode) fence(server, gen int) api.Errno {
	if n.now.meta.Fences[server] >= gen {
		return ok
	}
	return n.put(func(s *state) { s.meta.Fences[server] = gen })
}

// plain is a chain as the chapter tells it.
type plain []*plainNode

// newPlain is a new one of n storage nodes.
func newPlain(n int) plain {
	p := make(plain, n)
	for i := range p {
		p[i] = &plainNode{up: true, armed: -1, writes: 2}
		p[i].now.meta = api.Meta{Epoch: 1, Joined: 1}
	}
	return p
}

// plainMayBe tells whether a config may be of a chain of n storage nodes, as the Words tell it.
func plainMayBe(x api.Config, n int) bool {
	if x.Epoch < 1 || x.Epoch > maxCount || len(x.Members) == 0 || len(x.Members) != len(x.Since) {
		return false
	}
	times := map[int]int{}
	for i, m := range x.Members {
		times[m]++
		if m < 0 || m >= n || times[m] > 1 || x.Since[i] < 1 || x.Since[i] > x.Epoch {
			return false
		}
	}
	return true
}

// install as the Words tell it.
func (p plain) install(x api.Config) api.Errno {
	for _, m := range x.Members {
		if !p[m].up {
			return errDown
		}
	}
	source := -1
	for i, m := range x.Members {
		if p[m].now.meta.Epoch > x.Epoch {
			return errEpoch
		}
		if p[m].now.meta.Joined == x.Since[i] {
			source = m
		}
	}
	if source < 0 {
		return errLost
	}
	for _, m := range x.Members {
		if p[m].now.meta.Epoch == x.Epoch {
			continue
		}
		if err := p[m].put(func(s *state) { s.meta.Epoch = x.Epoch }); err != ok {
			return err
		}
	}
	for i, m := range x.Members {
		if p[m].now.meta.Joined == x.Since[i] {
			continue
		}
		if err := p.takeOver(m, source, x.Since[i]); err != ok {
			return err
		}
	}
	return ok
}

// takeOver as the Words tell it.
func (p plain) takeOver(m, source, since int) api.Errno {
	for b, x := range p[source].now.blocks {
		if err := p[m].load(b, x); err != ok {
			return err
		}
	}
	for server, gen := range p[source].now.meta.Fences {
		if gen == 0 {
			continue
		}
		if err := p[m].fence(server, gen); err != ok {
			return err
		}
	}
	return p[m].put(func(s *state) { s.meta.Joined = since })
}

// Write as P8.3 tells it.
func (p plain) Write(x api.Config, b int, data string, server, gen int) api.Errno {
	if !plainMayBe(x, len(p)) || b < 0 || b > 127 || len(data) > 44 || server < 0 || server > 2 || gen < 1 || gen > maxCount {
		return errRange
	}
	if err := p.install(x); err != ok {
		return err
	}
	seq := p[x.Members[0]].now.blocks[b].Seq
	if seq == maxCount {
		return errWorn
	}
	for _, m := range x.Members {
		if err := p[m].apply(b, api.Cell{Seq: seq + 1, Data: data}, server, gen); err != ok {
			return err
		}
	}
	return ok
}

// Read as P8.3 tells it.
func (p plain) Read(x api.Config, b int) (api.Cell, api.Errno) {
	if !plainMayBe(x, len(p)) || b < 0 || b > 127 {
		return api.Cell{}, errRange
	}
	if err := p.install(x); err != ok {
		return api.Cell{}, err
	}
	return p[x.Members[len(x.Members)-1]].now.blocks[b], ok
}

// Fence as P8.4 tells it.
func (p plain) Fence(x api.Config, server, gen int) api.Errno {
	if !plainMayBe(x, len(p)) || server < 0 || server > 2 || gen < 1 || gen > maxCount {
		return errRange
	}
	if err := p.install(x); err != ok {
		return err
	}
	for _, m := range x.Members {
		if err := p[m].fence(server, gen); err != ok {
			return err
		}
	}
	for b, v := range p[x.Members[0]].now.blocks {
		for _, m := range x.Members {
			if err := p[m].load(b, v); err != ok {
				return err
			}
		}
	}
	return ok
}

// Fail as P8.5 tells it.
func (p plain) Fail(i int) api.Errno {
	if i < 0 || i >= len(p) {
		return errNode
	}
	if !p[i].up {
		return errDown
	}
	p[i].up, p[i].armed = false, -1
	return ok
}

// Arm as P8.5 tells it.
func (p plain) Arm(i, k int) api.Errno {
	if i < 0 || i >= len(p) {
		return errNode
	}
	p[i].armed = max(k, -1)
	return ok
}

// Revive as P8.5 tells it. Torn or lost, the write that hangs hasn't been.
func (p plain) Revive(i, keep int, _ bool) api.Errno {
	if i < 0 || i >= len(p) {
		return errNode
	}
	if p[i].up {
		return errBusy
	}
	if p[i].hung != nil && keep > 0 {
		p[i].now = *p[i].hung
	}
	p[i].up, p[i].armed, p[i].hung = true, -1, nil
	return ok
}

// Up as P8.5 tells it.
func (p plain) Up(i int) bool {
	return i >= 0 && i < len(p) && p[i].up
}

// Len as P8.5 tells it.
func (p plain) Len() int {
	return len(p)
}

// Block as P8.5 tells it.
func (p plain) Block(i, b int) api.Cell {
	if !p.Up(i) || b < 0 || b > 127 {
		return api.Cell{}
	}
	return p[i].now.blocks[b]
}

// Meta as P8.5 tells it.
func (p plain) Meta(i int) api.Meta {
	if !p.Up(i) {
		return api.Meta{}
	}
	return p[i].now.meta
}

// Writes as P8.5 tells it.
func (p plain) Writes(i int) int {
	if i < 0 || i >= len(p) {
		return 0
	}
	return p[i].writes
}

// op is a call on a disk.
type op struct {
	what string
	do   func(disk) (api.Cell, api.Errno)
}

// just is a call that answers an error alone.
func just(what string, do func(disk) api.Errno) op {
	return op{what, func(d disk) (api.Cell, api.Errno) { return api.Cell{}, do(d) }}
}

// show is a config as a line.
func show(x api.Config) string {
	return fmt.Sprintf("{%d %v %v}", x.Epoch, x.Members, x.Since)
}

// showCell is a value as a line.
func showCell(x api.Cell) string {
	return fmt.Sprintf("{%d %q}", x.Seq, x.Data)
}

// write is a Write.
func write(x api.Config, b int, data string, server, gen int) op {
	what := fmt.Sprintf("Write(%s, %d, %d bytes, %d, %d)", show(x), b, len(data), server, gen)
	return just(what, func(d disk) api.Errno { return d.Write(x, b, data, server, gen) })
}

// read is a Read.
func read(x api.Config, b int) op {
	return op{fmt.Sprintf("Read(%s, %d)", show(x), b), func(d disk) (api.Cell, api.Errno) { return d.Read(x, b) }}
}

// fence is a Fence.
func fence(x api.Config, server, gen int) op {
	return just(fmt.Sprintf("Fence(%s, %d, %d)", show(x), server, gen), func(d disk) api.Errno { return d.Fence(x, server, gen) })
}

// fail is a Fail.
func fail(i int) op {
	return just(fmt.Sprintf("Fail(%d)", i), func(d disk) api.Errno { return d.Fail(i) })
}

// arm is an Arm.
func arm(i, k int) op {
	return just(fmt.Sprintf("Arm(%d, %d)", i, k), func(d disk) api.Errno { return d.Arm(i, k) })
}

// revive is a Revive.
func revive(i, keep int, torn bool) op {
	return just(fmt.Sprintf("Revive(%d, %d, %v)", i, keep, torn), func(d disk) api.Errno { return d.Revive(i, keep, torn) })
}

// twins is a chain and a plain one; both have the same done to them.
type twins struct {
	t *testing.T
	c *chain.Chain
	p plain
}

// newTwins is two new ones of n storage nodes.
func newTwins(t *testing.T, n int) *twins {
	t.Helper()
	return &twins{t: t, c: newChain(t, n), p: newPlain(n)}
}

// newChain is a new chain, and wants it to be made.
func newChain(t *testing.T, n int) *chain.Chain {
	t.Helper()
	c, err := chain.New(n)
	if c == nil || err != ok {
		t.Fatalf("New(%d): %v, %d", n, c, err)
	}
	return c
}

// do makes calls on both, holds what they answer against each other, and all that both tell behind it; it answers the last error.
func (w *twins) do(ops ...op) api.Errno {
	w.t.Helper()
	last := ok
	for _, o := range ops {
		got, err := o.do(w.c)
		want, wantErr := o.do(w.p)
		if got != want || err != wantErr {
			w.t.Fatalf("%s: %s, %d; want %s, %d", o.what, showCell(got), err, showCell(want), wantErr)
		}
		w.wantAlike(o.what)
		last = err
	}
	return last
}

// wantAlike holds all that the chain tells against the plain one.
func (w *twins) wantAlike(behind string) {
	w.t.Helper()
	if w.c.Len() != w.p.Len() {
		w.t.Fatalf("behind %s: Len %d; want %d", behind, w.c.Len(), w.p.Len())
	}
	for i := -1; i <= nStores; i++ {
		if w.c.Up(i) != w.p.Up(i) || w.c.Meta(i) != w.p.Meta(i) || w.c.Writes(i) != w.p.Writes(i) {
			w.t.Fatalf("behind %s: node %d: up %v, %v, %d writes; want %v, %v, %d", behind, i, w.c.Up(i), w.c.Meta(i), w.c.Writes(i), w.p.Up(i), w.p.Meta(i), w.p.Writes(i))
		}
		for b := -1; b <= nBlocks; b++ {
			if got, want := w.c.Block(i, b), w.p.Block(i, b); got != want {
				w.t.Fatalf("behind %s: Block(%d, %d): %s; want %s", behind, i, b, showCell(got), showCell(want))
			}
		}
	}
}

// wantErr holds an error against the one that should be.
func wantErr(t *testing.T, call string, got, want api.Errno) {
	t.Helper()
	if got != want {
		t.Errorf("%s: %d; want %d", call, got, want)
	}
}

// mixed is a text of n bytes that hangs on x.
func mixed(n, x int) string {
	b := make([]byte, n)
	for i := range b {
		b[i] = byte(x*31 + i*7)
	}
	return string(b)
}

// mapped is what a function makes of each number.
func mapped(l []int, to func(int) int) []int {
	var r []int
	for _, n := range l {
		r = append(r, to(n))
	}
	return r
}

// config is one of these.
func config(epoch int, members, since []int) api.Config {
	return api.Config{Epoch: epoch, Members: members, Since: since}
}

// first is First of n.
func first(t *testing.T, n int) api.Config {
	t.Helper()
	x, err := chain.First(n)
	wantErr(t, fmt.Sprintf("First(%d)", n), err, ok)
	return x
}

// next is Next of a config.
func next(t *testing.T, x api.Config, members ...int) api.Config {
	t.Helper()
	y, err := chain.Next(x, members)
	wantErr(t, fmt.Sprintf("Next(%s, %v)", show(x), members), err, ok)
	return y
}

// alone is a config of one node of a new chain, by which it alone is written or fenced.
func alone(i int) api.Config {
	return config(1, []int{i}, []int{1})
}

// rows is twins to which anything is done.
type rows struct {
	*twins
	rnd *rand.Rand
	x   api.Config // the config that is used most often
}

// one is one of several numbers.
func (r *rows) one(l ...int) int {
	return l[r.rnd.Intn(len(l))]
}

// config is the one of the row, one behind it, or any.
func (r *rows) config() api.Config {
	switch r.rnd.Intn(12) {
	case 0, 1:
		if y, err := chain.Next(r.x, r.rnd.Perm(nStores)[:1+r.rnd.Intn(3)]); err == ok && plainMayBe(y, len(r.p)) {
			r.x = y
		}
	case 2, 3:
		members := r.rnd.Perm(len(r.p))[:1+r.rnd.Intn(len(r.p))]
		epoch := max(1, r.x.Epoch+r.one(-1, 0, 0, 1))
		since := mapped(members, func(m int) int {
			return min(epoch, max(1, r.one(r.p[m].now.meta.Joined, r.p[m].now.meta.Joined, epoch, 1)))
		})
		r.x = config(epoch, members, since)
	case 4:
		return r.strangeConfig()
	}
	return r.x
}

// strangeConfig is one that most often may not be.
func (r *rows) strangeConfig() api.Config {
	x := config(r.one(-1, 0, 1, r.x.Epoch, maxCount+1, math.MinInt, math.MaxInt), slices.Clone(r.x.Members), slices.Clone(r.x.Since))
	switch r.rnd.Intn(6) {
	case 0:
		x.Members = nil
	case 1:
		x.Since = x.Since[1:]
	case 2:
		x.Members = append(x.Members, x.Members[0])
	case 3:
		x.Members[0] = r.one(-1, len(r.p), 3, math.MaxInt)
	case 4:
		x.Since[0] = r.one(-1, 0, x.Epoch, x.Epoch+1)
	}
	return x
}

// op is any call.
func (r *rows) op() op {
	i := r.one(-1, 0, 0, 0, 1, 1, 1, 2, 2, 2, 3)
	b := r.one(-1, 0, 0, 1, 1, 2, 127, 128, r.rnd.Intn(nBlocks))
	server, gen := r.one(-1, 0, 0, 0, 1, 1, 1, 2, 2, 2, 3), r.one(0, 1, 1, 2, 2, 3, 3, 4, maxCount, maxCount+1)
	switch r.rnd.Intn(16) {
	case 0:
		return fail(i)
	case 1:
		return arm(i, r.rnd.Intn(8)-1)
	case 2, 3, 4, 5:
		return revive(i, r.rnd.Intn(4)-1, r.rnd.Intn(2) == 0)
	case 6:
		return fence(r.config(), server, min(gen, 4))
	case 7, 8, 9:
		return read(r.config(), b)
	}
	return write(r.config(), b, mixed(r.one(0, 1, 2, 43, 44, 45), r.rnd.Intn(4)), server, gen)
}

// P8.1 to P8.5: long rows of all calls, with configs of all kinds and a power that fails and comes back, against the plain chain: what is answered, told and written.
func TestRows(t *testing.T) {
	answers := map[api.Errno]int{}
	for seed := range int64(120) {
		n := int(seed%nStores) + 1
		r := &rows{twins: newTwins(t, n), rnd: rand.New(rand.NewSource(seed)), x: first(t, n)}
		for range 250 {
			answers[r.do(r.op())]++
		}
		if t.Failed() {
			t.Fatalf("seed %d", seed)
		}
	}
	for _, err := range []api.Errno{ok, errRange, errEpoch, errFence, errLost, errDown, errStale, errBusy, errNode} {
		if answers[err] < 10 {
			t.Errorf("the rows came to the answer %d %d times only", err, answers[err])
		}
	}
}
