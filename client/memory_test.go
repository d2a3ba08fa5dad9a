package client_test

import (
	"reflect"
	"sync"
	"testing"

	"lagoon/api"
)

// wide makes a list one with spare room behind its end, in which something stands.
func wide[T any](l *[]T, spare ...T) {
	*l = append(append([]T(nil), *l...), spare...)[:len(*l)]
}

// roomy are lists with spare room.
func roomy() lists {
	return lists{
		func(l *[]int) { wide(l, 71, 72, 0, 1) },
		func(l *[]api.Hold) { wide(l, api.Hold{Lock: 71}, api.Hold{Lock: 1, Mode: 2}) },
		func(l *[]api.Dead) { wide(l, api.Dead{Server: 71}, api.Dead{Fence: 72}) },
	}
}

// toTheEnd makes a list reach to the end of its spare room.
func toTheEnd[T any](l *[]T) {
	*l = (*l)[:cap(*l)]
}

// opened is a message whose lists reach to the end of their spare room.
func opened(m api.Message) api.Message {
	lists{toTheEnd[int], toTheEnd[api.Hold], toTheEnd[api.Dead]}.ofMessage(&m)
	return m
}

// memory is all lists that were handed in and answered, to the end of their spare room.
type memory struct {
	ints     [][]int
	holds    [][]api.Hold
	deads    [][]api.Dead
	messages [][]api.Message
}

// take takes down the lists of a message.
func (m *memory) take(x api.Message) {
	lists{
		func(l *[]int) { m.ints = append(m.ints, (*l)[:cap(*l)]) },
		func(l *[]api.Hold) { m.holds = append(m.holds, (*l)[:cap(*l)]) },
		func(l *[]api.Dead) { m.deads = append(m.deads, (*l)[:cap(*l)]) },
	}.ofMessage(&x)
}

// takeAll takes down the lists of messages that were answered, and their own.
func (m *memory) takeAll(l []api.Message) {
	l = l[:cap(l)]
	m.messages = append(m.messages, l)
	for _, x := range l {
		m.take(x)
	}
}

// branded writes to each list its own thing, and then tells how many of them haven't it all over: these share memory with another one.
func branded[T any](lists [][]T, brand func(k int) T) int {
	for k, l := range lists {
		for i := range l {
			l[i] = brand(k)
		}
	}
	shared := 0
	for k, l := range lists {
		for i := range l {
			if !reflect.DeepEqual(l[i], brand(k)) {
				shared++
				break
			}
		}
	}
	return shared
}

// wantApart wants no two lists to share memory; what stood in them is gone behind it.
func (m *memory) wantApart(t *testing.T) {
	t.Helper()
	n := branded(m.ints, func(k int) int { return k + 100 }) +
		branded(m.holds, func(k int) api.Hold { return api.Hold{Lock: k + 100} }) +
		branded(m.deads, func(k int) api.Dead { return api.Dead{Server: k + 100} }) +
		branded(m.messages, func(k int) api.Message { return api.Message{Slot: k + 100} })
	if n > 0 {
		t.Errorf("%d of %d lists share memory", n, len(m.ints)+len(m.holds)+len(m.deads)+len(m.messages))
	}
	if len(m.ints) < 20 || len(m.holds) < 4 || len(m.deads) < 4 || len(m.messages) < 8 {
		t.Errorf("too few lists: %d, %d, %d, %d", len(m.ints), len(m.holds), len(m.deads), len(m.messages))
	}
}

// ask hands in a command whose list has spare room, wants it to stay as it is, and takes all down.
func (m *memory) ask(r *rig, now int, x api.Command, want api.Errno) {
	r.t.Helper()
	in := api.Message{Command: x}
	roomy().ofMessage(&in)
	was := cloned([]api.Message{opened(in)})
	out, err := r.Ask(now, in.Command)
	if is := []api.Message{opened(in)}; err != want || !equal(is, was) {
		r.t.Errorf("Ask(%d, %+v): %d; what was handed in is %+v; want %d, %+v", now, x, err, is, want, was)
	}
	m.take(in)
	m.takeAll(out)
}

// answered hands in an answer whose lists have spare room, wants it to stay as it is, and takes all down.
func (m *memory) answered(r *rig, in api.Message, want bool) {
	r.t.Helper()
	in.Command.Members = []int{2, 1}
	roomy().ofMessage(&in)
	was := cloned([]api.Message{opened(in)})
	v, _, is := r.Take(in)
	if now := []api.Message{opened(in)}; is != want || !equal(now, was) {
		r.t.Errorf("Take: %v; what was handed in is %+v; want %v, %+v", is, now, want, was)
	}
	m.take(in)
	m.take(api.Message{View: v})
}

// tend takes down what is sent again.
func (m *memory) tend(r *rig, now int) {
	r.t.Helper()
	out, err := r.Tend(now)
	if err != ok || len(out) != 1 {
		r.t.Errorf("Tend(%d): %d, %+v", now, err, out)
	}
	m.takeAll(out)
}

// open takes down what is open.
func (m *memory) open(r *rig) {
	x, _ := r.Open()
	m.take(api.Message{Command: x})
}

// R5, R6: commands and messages that are handed in stay as they are, the room behind their lists too, and aren't kept; messages, commands and views that are answered share no memory with the client, with each other or with what was handed in. All their lists are written over, and the client tells what it told ahead of that.
func TestMemory(t *testing.T) {
	r := made(t, 1, 2, 3)
	var m memory
	x := members(1, 2, 0, 1)
	for seq := 1; seq <= 4; seq++ {
		now := 100 * seq
		m.ask(r, now, api.Command{Kind: kMount, Members: []int{1}}, errKind)
		m.ask(r, now, x, ok)
		m.ask(r, now, x, errBusy)
		m.ask(r, maxTime+1, x, errRange)
		m.tend(r, now+6)
		m.open(r)
		m.open(r)
		m.tend(r, now+12)
		m.answered(r, r.answer(2, seq+1, someView()), false)
		m.answered(r, r.answer(1, seq, someView()), true)
		m.answered(r, r.answer(1, seq, someView()), false)
	}
	m.ask(r, 900, x, ok)
	m.tend(r, 906)
	m.open(r)
	m.wantApart(t)
	r.wantOpen("behind all that was written to the lists", x, 5, 2, 900, 906)
	r.wantTended("Tend", 912, r.request(0, x, 5))
	r.wantTaken("Take", r.answer(0, 5, someView()), 900)
}

// R5: Members that are handed in and written over afterwards are sent as they were.
func TestMembersHandedIn(t *testing.T) {
	r := made(t, 0, 1, 2)
	x := members(1, 2, 0)
	first, err := r.Ask(10, x)
	x.Members[0], x.Members[1] = 1, 1
	x.Members = append(x.Members[:1], 0, 2)
	r.wantOut("Ask", first, err, r.request(0, members(1, 2, 0), 1))
	r.wantOpen("written over", members(1, 2, 0), 1, 0, 10, 10)
	r.wantTended("Tend", 16, r.request(1, members(1, 2, 0), 1))
}

// R6: what was answered is written over, and nothing that is answered later knows of it.
func TestAnsweredWrittenOver(t *testing.T) {
	r := made(t, 0, 1, 2)
	x := members(1, 2, 0)
	out, _ := r.Ask(10, x)
	for i := 1; i <= 4; i++ {
		out[0].Command.Members[0] = 77
		out[0].Command.Seq, out[0].To = 9, 9
		c, _ := r.Open()
		c.Members[1] = 78
		r.wantOpen("written over", members(1, 2, 0), 1, (i+1)%2, 10, 10+retry*(i-1))
		out, _ = r.Tend(10 + retry*i)
		r.wantOut("Tend", out, ok, r.request(i%2, members(1, 2, 0), 1))
	}
	m := r.answer(0, 1, someView())
	v, _, _ := r.Take(m)
	v.Config.Members[0], v.Config.Since[0], v.Holds[0].Lock, v.Dead[0].Server = 9, 9, 9, 9
	if !equalViews(m.View, someView()) {
		t.Errorf("the answer that was handed in is %+v", m.View)
	}
}

// R5, R6: nil and the empty list are one.
func TestEmptyLists(t *testing.T) {
	for _, none := range [][]int{nil, {}, make([]int, 0, 5)} {
		r := made(t, 0, 1, 1)
		x := mount()
		x.Members = none
		r.wantAsked(5, x, 0, 1)
		r.wantTended("Tend", 11, r.request(0, mount(), 1))
		m := r.answer(0, 1, api.View{Config: api.Config{Members: none, Since: none}, Holds: []api.Hold{}, Dead: make([]api.Dead, 0, 3)})
		r.wantTaken("Take", m, 5)
		x = members(1)
		x.Members = none
		r.wantUnasked("no members", 20, x, errKind)
	}
}

// R5: one command and one answer are handed in to several clients at once: no call writes to them (as go test -race tells), and the clients don't touch each other (R7).
func TestSharedArguments(t *testing.T) {
	in := api.Message{Kind: mAnswer, From: 1, To: 9, Command: members(1, 2, 0, 1), View: someView()}
	in.Command = numbered(in.Command, 1, 3, 1)
	roomy().ofMessage(&in)
	was := cloned([]api.Message{opened(in)})
	var group sync.WaitGroup
	var rigs [4]*rig
	for i := range rigs {
		rigs[i] = made(t, 1, 3, 2)
	}
	for _, r := range rigs {
		group.Go(func() {
			r.Ask(5, in.Command)
			r.Open()
			r.Tend(11)
			r.Take(in)
			r.Ask(20, in.Command)
			r.Tend(26)
		})
	}
	group.Wait()
	if is := []api.Message{opened(in)}; !equal(is, was) {
		t.Errorf("what was handed in is %+v; want %+v", is, was)
	}
	for _, r := range rigs {
		r.wantOpen("at once", members(1, 2, 0, 1), 2, 0, 20, 26)
	}
}

// R7: two clients of one server, boot and group are two: what one does the other doesn't tell.
func TestTwoClients(t *testing.T) {
	r, other := made(t, 1, 1, 3), made(t, 1, 1, 3)
	r.wantAsked(5, mount(), 0, 1)
	other.wantIdle("the other one asked", 0, 1)
	other.wantAsked(7, renew(1), 0, 1)
	r.wantTended("Tend", 11, r.request(1, mount(), 1))
	other.wantOpen("the other one was tended", renew(1), 1, 0, 7, 7)
	r.wantTaken("Take", r.answer(2, 1, someView()), 5)
	other.wantOpen("the other one was answered", renew(1), 1, 0, 7, 7)
	other.wantTaken("Take", r.answer(1, 1, someView()), 7)
	r.wantIdle("the other one was answered", 2, 2)
}

// R7: a client and its copy are two, also while a request is open.
func TestCopy(t *testing.T) {
	r := open(t)
	other := r.twin()
	r.wantTended("Tend", 112, r.request(0, renew(1), 3))
	other.wantOpen("the other one was tended", renew(1), 3, 2, 100, 106)
	r.wantTaken("Take", r.answer(1, 3, someView()), 100)
	other.wantOpen("the other one was answered", renew(1), 3, 2, 100, 106)
	r.wantAsked(200, members(1, 0), 1, 4)
	other.wantTended("Tend", 150, r.request(0, renew(1), 3))
	other.wantTaken("Take", r.answer(0, 3, someView()), 100)
	other.wantAsked(300, lock(1, 3, 2), 0, 4)
	r.wantOpen("the other one asked", members(1, 0), 4, 1, 200, 200)
}

// R1: long lists, handed in where they may not be, and in a view.
func TestLongLists(t *testing.T) {
	const n = 1 << 18
	r := made(t, 0, 1, 1)
	r.wantUnasked("many members", 5, members(1, make([]int, n)...), errKind)
	r.wantAsked(5, mount(), 0, 1)
	m := r.answer(0, 1, api.View{Config: api.Config{Members: make([]int, n), Since: make([]int, n)}, Holds: make([]api.Hold, n), Dead: make([]api.Dead, n)})
	m.Command.Members = make([]int, n)
	r.wantTaken("long lists", m, 5)
}
