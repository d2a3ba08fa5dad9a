package bag_test

import (
	"math"
	"math/rand"
	"slices"
	"strings"
	"testing"

	"lagoon/api"
	"lagoon/bag"
)

// made is a new bag with so much room, and these things sent into it.
func made[T any](t *testing.T, room int, things ...T) *bag.Bag[T] {
	t.Helper()
	b, err := bag.New[T](room)
	if b == nil || err != api.OK {
		t.Fatalf("New(%d): %v, %d; want a bag, 0", room, b, err)
	}
	for _, x := range things {
		if err := b.Send(x); err != api.OK {
			t.Fatalf("Send(%v) into a bag with room: %d; want 0", x, err)
		}
	}
	return b
}

// wantBag holds all that a bag tells of itself against what it should.
func wantBag[T comparable](t *testing.T, what string, b *bag.Bag[T], lost int, things ...T) {
	t.Helper()
	if got := b.List(); !slices.Equal(got, things) {
		t.Errorf("%s: List %v; want %v", what, got, things)
	}
	if b.Len() != len(things) || b.Lost() != lost {
		t.Errorf("%s: Len %d, Lost %d; want %d, %d", what, b.Len(), b.Lost(), len(things), lost)
	}
}

// wantErr holds an error against what it should be.
func wantErr(t *testing.T, what string, got, want api.Errno) {
	t.Helper()
	if got != want {
		t.Errorf("%s: %d; want %d", what, got, want)
	}
}

// wantTake takes a thing, and holds it against what it should be.
func wantTake[T comparable](t *testing.T, b *bag.Bag[T], k int, want T, wantOK bool) {
	t.Helper()
	if x, ok := b.Take(k); x != want || ok != wantOK {
		t.Errorf("Take(%d): %v, %v; want %v, %v", k, x, ok, want, wantOK)
	}
}

// numbers from 0 on.
func numbers(n int) []int {
	all := make([]int, n)
	for i := range all {
		all[i] = i
	}
	return all
}

// outside are places at which a bag of n things has none.
func outside(n int) []int {
	return []int{-1, -2, -64, math.MinInt, math.MinInt32, n, n + 1, 64, 65, 1 << 32, math.MaxInt}
}

// The chapter's examples.
func TestExamples(t *testing.T) {
	b := made(t, 3, "a", "b", "c")
	wantErr(t, "Send(d)", b.Send("d"), api.ErrFull)
	wantBag(t, "d was lost", b, 1, "a", "b", "c")
	wantTake(t, b, 1, "b", true)
	wantBag(t, "b is out", b, 1, "a", "c")
	wantErr(t, "Double(0)", b.Double(0), api.OK)
	wantBag(t, "a is there twice", b, 1, "a", "c", "a")
	if b.Drop(5) {
		t.Error("Drop(5): true")
	}
	wantTake(t, b, -1, "", false)
	wantBag(t, "nothing is out", b, 1, "a", "c", "a")
}

// P2.1: New, at every room and at what is none.
func TestNew(t *testing.T) {
	for room := 1; room <= 64; room++ {
		wantBag(t, "a new bag", made[string](t, room), 0)
	}
	for _, room := range []int{0, -1, -64, math.MinInt, 65, 66, 128, 1 << 32, 1<<32 + 1, math.MaxInt} {
		b, err := bag.New[string](room)
		if b != nil || err != api.ErrRange {
			t.Errorf("New(%d): %v, %d; want nil, %d", room, b, err, api.ErrRange)
		}
	}
	if api.MaxRoom != 64 {
		t.Errorf("MaxRoom: %d", api.MaxRoom)
	}
}

// P2.1: what is sent is the last thing, till the room is full; then it is lost and counted.
func TestSend(t *testing.T) {
	for room := 1; room <= 64; room++ {
		b := made[int](t, room)
		for i := range room {
			wantErr(t, "Send with room", b.Send(i), api.OK)
			wantBag(t, "sent", b, 0, numbers(i+1)...)
		}
		for i := range 3 {
			wantErr(t, "Send without room", b.Send(1000+i), api.ErrFull)
			wantBag(t, "a full bag", b, i+1, numbers(room)...)
		}
		wantTake(t, b, 0, 0, true)
		wantErr(t, "Send with room again", b.Send(7), api.OK)
		wantBag(t, "full again", b, 3, append(numbers(room)[1:], 7)...)
	}
}

// P2.2: Take of every thing of bags of many sizes.
func TestTake(t *testing.T) {
	for _, n := range []int{1, 2, 3, 5, 63, 64} {
		for k := range n {
			b := made(t, 64, numbers(n)...)
			wantTake(t, b, k, k, true)
			left := slices.Concat(numbers(n)[:k], numbers(n)[k+1:])
			wantBag(t, "a thing is out", b, 0, left...)
			if k < n-1 {
				wantTake(t, b, k, k+1, true)
			} else {
				wantTake(t, b, k, 0, false)
			}
		}
	}
}

// P2.2: Drop of every thing.
func TestDrop(t *testing.T) {
	for _, n := range []int{1, 2, 3, 5, 63, 64} {
		for k := range n {
			b := made(t, 64, numbers(n)...)
			if !b.Drop(k) {
				t.Errorf("Drop(%d) of %d things: false", k, n)
			}
			wantBag(t, "a thing was dropped", b, 0, slices.Concat(numbers(n)[:k], numbers(n)[k+1:])...)
		}
	}
}

// P2.2: Double of every thing: a thing more at the end.
func TestDouble(t *testing.T) {
	for _, n := range []int{1, 2, 3, 5, 63} {
		for k := range n {
			b := made(t, 64, numbers(n)...)
			wantErr(t, "Double", b.Double(k), api.OK)
			wantBag(t, "a thing is there twice", b, 0, append(numbers(n), k)...)
			wantTake(t, b, k, k, true)
			wantBag(t, "one of the two is out", b, 0, append(slices.Concat(numbers(n)[:k], numbers(n)[k+1:]), k)...)
		}
	}
}

// P2.2: Double of a full bag loses the double, and counts it; of no thing it is ErrGone, and counts nothing.
func TestDoubleFull(t *testing.T) {
	for _, room := range []int{1, 2, 63, 64} {
		b := made(t, room, numbers(room)...)
		for i, k := range []int{0, room - 1, room / 2} {
			wantErr(t, "Double of a full bag", b.Double(k), api.ErrFull)
			wantBag(t, "a double was lost", b, i+1, numbers(room)...)
		}
		for _, k := range outside(room) {
			wantErr(t, "Double of no thing of a full bag", b.Double(k), api.ErrGone)
		}
		wantErr(t, "Send", b.Send(99), api.ErrFull)
		wantBag(t, "a full bag", b, 4, numbers(room)...)
	}
}

// P2.2: where there is no thing k, nothing is done.
func TestNoThing(t *testing.T) {
	for _, n := range []int{0, 1, 2, 5, 63, 64} {
		things := make([]string, n)
		for i := range things {
			things[i] = strings.Repeat("x", i+1)
		}
		b := made(t, 64, things...)
		for _, k := range outside(n) {
			wantTake(t, b, k, "", false)
			if b.Drop(k) {
				t.Errorf("Drop(%d) of %d things: true", k, n)
			}
			wantErr(t, "Double of no thing", b.Double(k), api.ErrGone)
			wantBag(t, "nothing was done", b, 0, things...)
		}
	}
}

// P2.3: Lost counts what had no room alone, not what was dropped or taken.
func TestLost(t *testing.T) {
	b := made(t, 2, "a", "b")
	b.Send("c")
	b.Drop(0)
	b.Take(0)
	b.Drop(0)
	b.Double(0)
	wantBag(t, "one was lost", b, 1)
	b.Send("d")
	b.Double(0)
	b.Double(0)
	b.Send("e")
	wantBag(t, "three were lost", b, 3, "d", "d")
}

// A nil bag has nothing, and takes nothing.
func TestNilBag(t *testing.T) {
	var b *bag.Bag[string]
	wantErr(t, "Send", b.Send("a"), api.ErrNil)
	for _, k := range append(outside(0), 0) {
		wantErr(t, "Double", b.Double(k), api.ErrNil)
		wantTake(t, b, k, "", false)
		if b.Drop(k) {
			t.Errorf("Drop(%d): true", k)
		}
	}
	wantBag(t, "a nil bag", b, 0)
}

// R1: a bag that New didn't make has no room; no call of it panics.
func TestZeroBag(t *testing.T) {
	var b bag.Bag[int]
	wantBag(t, "the zero bag", &b, 0)
	wantErr(t, "Send", b.Send(1), api.ErrFull)
	wantErr(t, "Double", b.Double(0), api.ErrGone)
	wantTake(t, &b, 0, 0, false)
	wantBag(t, "the zero bag", &b, 1)
}

// R6: lists that were answered share memory neither with the bag nor with each other, their spare room neither.
func TestListIsNew(t *testing.T) {
	for n := range 65 {
		b := made(t, 64, numbers(n)...)
		first, second := b.List(), b.List()
		scribble(first)
		if !slices.Equal(second, numbers(n)) {
			t.Errorf("two lists of %d share memory: %v", n, second)
		}
		wantBag(t, "a list was written over", b, 0, numbers(n)...)
		if n < 64 {
			b.Send(n)
			scribble(second)
			wantBag(t, "a list's spare room was written over", b, 0, numbers(n+1)...)
		}
	}
}

// R6: what is done with the bag doesn't touch a list that was answered.
func TestListStays(t *testing.T) {
	b := made(t, 4, "a", "b", "c")
	list := b.List()
	b.Take(0)
	b.Send("d")
	b.Double(0)
	b.Drop(1)
	if !slices.Equal(list, []string{"a", "b", "c"}) {
		t.Errorf("a list that was answered: %v", list)
	}
	wantBag(t, "the bag", b, 0, "b", "d", "b")
}

// scribble writes over a list and the spare room behind it.
func scribble(list []int) {
	list = list[:cap(list)]
	for i := range list {
		list[i] = -7
	}
}

// R7: two bags don't touch each other.
func TestBagsApart(t *testing.T) {
	a, b := made(t, 2, 1, 2), made(t, 2, 1, 2)
	a.Send(3)
	a.Take(0)
	wantBag(t, "one bag", a, 1, 2)
	wantBag(t, "the other bag", b, 0, 1, 2)
	b.Drop(1)
	b.Double(0)
	b.Double(0)
	wantBag(t, "one bag", a, 1, 2)
	wantBag(t, "the other bag", b, 1, 1, 1)
}

// R7: a bag and its copy don't touch each other, whichever goes on first.
func TestCopyApart(t *testing.T) {
	for n := range 8 {
		a := made(t, 9, numbers(n)...)
		a.Send(50)
		b := *a
		a.Send(60)
		b.Send(70)
		wantBag(t, "a bag", a, 0, append(numbers(n), 50, 60)...)
		wantBag(t, "its copy", &b, 0, append(numbers(n), 50, 70)...)
		c := b
		b.Drop(0)
		c.Drop(1)
		b.Send(80)
		wantBag(t, "a bag", a, 0, append(numbers(n), 50, 60)...)
		wantBag(t, "its copy", &b, 0, append(numbers(n), 50, 70, 80)[1:]...)
		wantBag(t, "the copy's copy", &c, 0, slices.Delete(append(numbers(n), 50, 70), 1, 2)...)
	}
}

// pair: a thing of two parts.
type pair struct {
	n int
	s string
}

// The bag is generic in its things: structs.
func TestStructs(t *testing.T) {
	b := made(t, 3, pair{1, "a"}, pair{2, "b"})
	wantErr(t, "Double", b.Double(0), api.OK)
	wantErr(t, "Send", b.Send(pair{3, "c"}), api.ErrFull)
	wantTake(t, b, 1, pair{2, "b"}, true)
	wantTake(t, b, 2, pair{}, false)
	wantBag(t, "a bag of structs", b, 1, pair{1, "a"}, pair{1, "a"})
}

// The bag is generic in its things: messages, which can't be compared.
func TestMessages(t *testing.T) {
	b := made(t, 2, api.Message{Kind: api.MsgRequest, From: 8, Command: api.Command{Members: []int{0, 1}}}, api.Message{Kind: api.MsgAnswer, To: 8})
	if x, ok := b.Take(0); !ok || x.Kind != api.MsgRequest || x.From != 8 || !slices.Equal(x.Command.Members, []int{0, 1}) {
		t.Errorf("Take(0): %v, %v", x, ok)
	}
	if x, ok := b.Take(1); ok || x.Kind != 0 || x.Command.Members != nil {
		t.Errorf("Take(1): %v, %v; want nothing", x, ok)
	}
	if list := b.List(); len(list) != 1 || list[0].Kind != api.MsgAnswer || list[0].To != 8 {
		t.Errorf("List: %v", list)
	}
}

// The bag is generic in its things: things of no size, pointers, functions.
func TestOtherThings(t *testing.T) {
	wantBag(t, "things of no size", made(t, 3, struct{}{}, struct{}{}), 0, struct{}{}, struct{}{})
	var none *int
	n := 5
	b := made(t, 3, &n, none)
	wantTake(t, b, 1, nil, true)
	wantTake(t, b, 1, nil, false)
	wantTake(t, b, 0, &n, true)
	f := made(t, 1, func() int { return 9 })
	if x, ok := f.Take(0); !ok || x() != 9 {
		t.Error("Take of a function")
	}
	if x, ok := f.Take(0); ok || x != nil {
		t.Error("Take of no function")
	}
}

// model is a bag told the plain way, thing by thing: what the bag is held against.
type model struct {
	room, lost int
	things     []int
}

func (m *model) send(x int) api.Errno {
	if len(m.things) == m.room {
		m.lost++
		return api.ErrFull
	}
	m.things = append(slices.Clone(m.things), x)
	return api.OK
}

func (m *model) take(k int) (int, bool) {
	x, found := 0, false
	var left []int
	for i, y := range m.things {
		if i == k {
			x, found = y, true
		} else {
			left = append(left, y)
		}
	}
	m.things = left
	return x, found
}

func (m *model) double(k int) api.Errno {
	for i, y := range m.things {
		if i == k {
			return m.send(y)
		}
	}
	return api.ErrGone
}

// play does one step with the bag and the model alike.
func play(t *testing.T, b *bag.Bag[int], m *model, what, k, x int) {
	t.Helper()
	switch what {
	case 0, 1:
		wantErr(t, "Send", b.Send(x), m.send(x))
	case 2:
		want, ok := m.take(k)
		wantTake(t, b, k, want, ok)
	case 3:
		if _, want := m.take(k); b.Drop(k) != want {
			t.Errorf("Drop(%d): not %v", k, want)
		}
	default:
		wantErr(t, "Double", b.Double(k), m.double(k))
	}
	wantBag(t, "behind a step", b, m.lost, m.things...)
}

// P2.1 to P2.3: long rows of calls, step by step.
func TestRows(t *testing.T) {
	dice := rand.New(rand.NewSource(1))
	for row := range 200 {
		m := &model{room: 1 + row%64}
		b := made[int](t, m.room)
		for x := range 300 {
			play(t, b, m, dice.Intn(5), dice.Intn(len(m.things)+3)-1, x+1)
		}
	}
}

// P2.4: without Double, each thing comes out once at most; what hasn't is still in, in the order of sending.
func TestAtMostOnce(t *testing.T) {
	dice := rand.New(rand.NewSource(2))
	for row := range 100 {
		b := made[int](t, 1+row%64)
		in := map[int]bool{}
		for x := range 500 {
			k := dice.Intn(b.Len() + 2)
			switch dice.Intn(4) {
			case 0:
				checkTake(t, b, k, in)
			case 1:
				checkDrop(t, b, k, in)
			default:
				if b.Send(x) == api.OK {
					in[x] = true
				}
			}
			checkStillIn(t, b, in)
		}
	}
}

func checkTake(t *testing.T, b *bag.Bag[int], k int, in map[int]bool) {
	t.Helper()
	x, ok := b.Take(k)
	if !ok {
		return
	}
	if !in[x] {
		t.Errorf("Take(%d): %d, which is out, or never was in", k, x)
	}
	delete(in, x)
}

func checkDrop(t *testing.T, b *bag.Bag[int], k int, in map[int]bool) {
	t.Helper()
	list := b.List()
	if b.Drop(k) {
		delete(in, list[k])
	}
}

func checkStillIn(t *testing.T, b *bag.Bag[int], in map[int]bool) {
	t.Helper()
	list := b.List()
	if len(list) != len(in) || !slices.IsSorted(list) {
		t.Errorf("still in: %v; want %d in the order of sending", list, len(in))
	}
	for _, x := range list {
		if !in[x] {
			t.Errorf("%d is in, and was taken, dropped or lost", x)
		}
	}
}
