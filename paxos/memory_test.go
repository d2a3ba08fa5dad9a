package paxos_test

import (
	"fmt"
	"reflect"
	"strings"
	"sync"
	"testing"

	"lagoon/api"
)

// wide makes a list one with spare room behind its end, in which something stands.
func wide[T any](l *[]T, spare ...T) {
	*l = append(append([]T(nil), *l...), spare...)[:len(*l)]
}

// roomy are lists with spare room.
func roomy() lists {
	return lists{
		func(l *[]int) { wide(l, 71, 72, 0, 1) },
		func(l *[]api.Hold) { wide(l, api.Hold{Lock: 71}, api.Hold{Lock: 1, Mode: 2}) },
		func(l *[]api.Dead) { wide(l, api.Dead{Server: 71}, api.Dead{Fence: 72}) },
	}
}

// toTheEnd makes a list reach to the end of its spare room.
func toTheEnd[T any](l *[]T) {
	*l = (*l)[:cap(*l)]
}

// opened is a message whose lists reach to the end of their spare room.
func opened(m api.Message) api.Message {
	lists{toTheEnd[int], toTheEnd[api.Hold], toTheEnd[api.Dead]}.ofMessage(&m)
	return m
}

// memory is all lists that were handed in and answered, to the end of their spare room.
type memory struct {
	ints     [][]int
	holds    [][]api.Hold
	deads    [][]api.Dead
	messages [][]api.Message
}

// lists takes lists down.
func (m *memory) lists() lists {
	return lists{
		func(l *[]int) { m.ints = append(m.ints, (*l)[:cap(*l)]) },
		func(l *[]api.Hold) { m.holds = append(m.holds, (*l)[:cap(*l)]) },
		func(l *[]api.Dead) { m.deads = append(m.deads, (*l)[:cap(*l)]) },
	}
}

// take takes down the lists of messages that were answered.
func (m *memory) take(l []api.Message) {
	l = l[:cap(l)]
	m.messages = append(m.messages, l)
	for i := range l {
		m.lists().ofMessage(&l[i])
	}
}

// takeState takes down the lists of a state that was answered.
func (m *memory) takeState(x api.State) {
	m.lists().ofState(&x)
}

// branded writes to each list its own thing, and then tells how many of them haven't it all over: these share memory with another one.
func branded[T any](lists [][]T, brand func(k int) T) int {
	for k, l := range lists {
		for i := range l {
			l[i] = brand(k)
		}
	}
	shared := 0
	for k, l := range lists {
		for i := range l {
			if !reflect.DeepEqual(l[i], brand(k)) {
				shared++
				break
			}
		}
	}
	return shared
}

// wantApart wants no two lists to share memory; what stood in them is gone behind it.
func (m *memory) wantApart(t *testing.T) {
	t.Helper()
	n := branded(m.ints, func(k int) int { return k }) +
		branded(m.holds, func(k int) api.Hold { return api.Hold{Lock: k} }) +
		branded(m.deads, func(k int) api.Dead { return api.Dead{Server: k} }) +
		branded(m.messages, func(k int) api.Message { return api.Message{Slot: k} })
	if n > 0 {
		t.Errorf("%d of %d lists share memory", n, len(m.ints)+len(m.holds)+len(m.deads)+len(m.messages))
	}
	if len(m.ints) < 50 || len(m.holds) < 20 || len(m.deads) < 20 || len(m.messages) < 20 {
		t.Errorf("too few lists: %d, %d, %d, %d", len(m.ints), len(m.holds), len(m.deads), len(m.messages))
	}
}

// full are the commands that make a state whose lists have something in them, and whose answers too.
func full() []api.Command {
	return []api.Command{mountOf(0, 1, 1), mountOf(1, 1, 1), mountOf(2, 1, 1), mountOf(2, 2, 1), chainOf(0, 1, 2, 1, 2, 0), lockOf(0, 1, 3, 1, 4, 2), lockOf(1, 1, 2, 1, 4, 1), lockOf(1, 1, 3, 1, 5, 1), chainOf(0, 1, 4, 1, 0, 1, 2)}
}

// viewOf is the view of the last of these commands, each asked at the mark.
func viewOf(t *testing.T, commands ...api.Command) api.View {
	t.Helper()
	_, view := behind(t, begin(t, 3), commands...)
	return view
}

// remembering is a rig whose messages, in and out, are taken down.
type remembering struct {
	*rig
	memory
}

// hear hands in a message whose lists have spare room, and wants it to stay as it is.
func (r *remembering) hear(x api.Message) {
	r.t.Helper()
	x = r.in(x)
	roomy().ofMessage(&x)
	r.lists().ofMessage(&x)
	was := cloned([]api.Message{opened(x)})
	out, err := r.p.Handle(150, x)
	if err != ok {
		r.t.Errorf("Handle: %d", err)
	}
	if is := []api.Message{opened(x)}; !equal(is, was) {
		r.t.Errorf("a message is changed: %swant%s", show(is), show(was))
	}
	r.take(out)
}

// R5, R6: messages that are handed in, their lists and the room behind these stay as they are and aren't kept; each list that is answered, in messages and in states, is new memory, spare room too.
func TestMemory(t *testing.T) {
	for n := 1; n <= 3; n++ {
		r := &remembering{rig: started(t, 0, n)}
		if r.stand(150); n > 1 {
			r.lead(150)
		}
		for _, c := range full() {
			for range 2 {
				r.hear(request(c))
				if n > 1 {
					r.hear(accepted(1, r.p.Ballot(), r.p.Done()+1))
				}
			}
			r.takeState(r.p.State())
			r.takeState(r.p.State())
			for _, last := range full() {
				r.hear(request(last))
			}
		}
		was, state := tells(t, r.p), r.p.State()
		if len(state.Servers[0].Answer.Dead) == 0 || len(state.Servers[1].Answer.Holds) == 0 || len(state.Queues[4]) == 0 || r.p.Done() != len(full()) {
			t.Fatalf("the state is too poor: %+v", state)
		}
		if n > 1 {
			for _, x := range []api.Message{{Kind: mPrepare, Ballot: 1}, {Kind: mPropose, Ballot: 99, Slot: 1}, {Kind: mNack, Ballot: 1}, {Kind: mPrepare, Ballot: r.p.Ballot()}} {
				x.From, x.Command, x.View = 1, chainOf(0, 1, 2, 1, 0), state.Servers[0].Answer
				r.hear(x)
			}
		}
		r.wantApart(t)
		wantTold(t, "behind all that was written to the lists", r.p, was)
		last := full()[len(full())-1]
		r.wantHeard("the last command again", 200, request(last), answer(last, viewOf(t, full()...)))
	}
}

// R5: one message is handed in to several peers at once: no call writes to it (as go test -race tells), and the peers don't touch each other (R7).
func TestSharedMessage(t *testing.T) {
	m := request(chainOf(0, 1, 2, 1, 2, 0))
	roomy().ofMessage(&m)
	mount := mountOf(0, 1, 1)
	var group sync.WaitGroup
	var rigs [4]*rig
	for i := range rigs {
		rigs[i] = started(t, 0, 1)
		rigs[i].stand(100)
		rigs[i].wantHeard("MsgRequest", 100, request(mount), answer(mount, viewOf(t, mount)))
	}
	for _, r := range rigs {
		group.Go(func() {
			for range 20 {
				r.p.Handle(100, m)
				r.p.State()
			}
		})
	}
	group.Wait()
	state, _ := behind(t, begin(t, 3), mount, m.Command)
	for _, r := range rigs {
		r.wantTold("it is decided once", true, 1, 2, state)
	}
}

// R7: two peers on two stores don't touch each other: what one does in turns with the other is what it does alone.
func TestApart(t *testing.T) {
	const rows, steps = 4, 300
	run := func(turns bool) [rows]told {
		var all [rows]*rowOf
		for i := range all {
			all[i] = row(t, int64(i+1), map[string]int{})
			all[i].begin()
		}
		if turns {
			for range steps {
				for _, r := range all {
					r.play()
				}
			}
		} else {
			for _, r := range all {
				for range steps {
					r.play()
				}
			}
		}
		var out [rows]told
		for i, r := range all {
			out[i] = tells(t, r.peer)
		}
		return out
	}
	if alone, turns := run(false), run(true); alone != turns {
		t.Error("rows in turns come to something else than one behind the other")
	}
}

// R7: a peer and its copy are two: what one does the other doesn't tell.
func TestCopy(t *testing.T) {
	r := leading(t, 1, mountOf(2, 1, 1))
	other := *r.p
	sent := r.tend()
	r.wantHeard("MsgPrepare", 130, api.Message{Kind: mPrepare, From: 0, Ballot: 20, Slot: 5}, api.Message{Kind: mPromise, To: 0, Ballot: 20, Slot: 5, Accepted: api.Accepted{Ballot: 10, Value: valueOf(t, after(20, mountOf(2, 1, 1)))}})
	r.wantTold("it follows", false, 20, 4, some(t))
	wantTold(t, "the copy", &other, told{true, 10, 4, some(t)})
	out, err := other.Tend(130)
	wantOut(t, "Tend of the copy", out, err, sent...)
	standing := *eachRole(t)["stands"].p
	third := standing
	if _, err := third.Handle(130, api.Message{Kind: mPromise, From: 0, To: 1, Ballot: 10, Slot: 5}); err != ok || !third.Leads() || standing.Leads() {
		t.Errorf("MsgPromise to a copy: %d, %v, %v", err, third.Leads(), standing.Leads())
	}
	out, err = standing.Tend(130)
	wantOut(t, "Tend of the one that was copied", out, err, r.out(r.others(prepare(10, 5))...)...)
}

// R3: of the messages that go out each field that isn't told is zero, From is the peer, and no message goes to itself.
func TestFields(t *testing.T) {
	uses := map[api.MsgKind]string{mPrepare: "Ballot Slot", mPromise: "Ballot Slot Accepted State", mPropose: "Ballot Slot Accepted", mAccepted: "Ballot Slot", mLearn: "Slot State", mNack: "Ballot Slot", mAnswer: "Command View"}
	seen := map[api.MsgKind]int{}
	for seed := range int64(30) {
		r := row(t, seed, map[string]int{})
		r.begin()
		for range 300 {
			r.play()
			now, m := r.moment(), r.message()
			out, _ := r.peer.Handle(now, m)
			r.plain.call(now, func() { r.plain.handle(m) })
			for _, x := range out {
				seen[x.Kind]++
				if x.From != r.id || x.To == r.id {
					t.Errorf("%d sends %s", r.id, show(out))
				}
				wantZero(t, x, uses[x.Kind])
			}
		}
	}
	for kind := range uses {
		if kind != mPrepare && seen[kind] < 20 {
			t.Errorf("kind %d: %d times", kind, seen[kind])
		}
	}
}

// wantZero wants all fields of a message to be zero but these, and Kind, From and To.
func wantZero(t *testing.T, m api.Message, uses string) {
	t.Helper()
	v := reflect.ValueOf(m)
	for i := range v.NumField() {
		name := v.Type().Field(i).Name
		used := false
		for _, u := range append([]string{"Kind", "From", "To"}, strings.Fields(uses)...) {
			used = used || u == name
		}
		if !used && !v.Field(i).IsZero() {
			t.Errorf("kind %d: %s is %s", m.Kind, name, fmt.Sprint(v.Field(i)))
		}
	}
}
