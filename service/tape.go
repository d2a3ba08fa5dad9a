package service

import (
	"lagoon/api"
	"lagoon/codec"
)

// tape is what numbers are laid on, or taken from: it is handed the number that is there, and answers the one that shall be. So what is laid and what is taken go through the same numbers in the same order.
type tape func(n int) int

// tooMany is more things than any list of a state or a command may have: who takes a longer list up needs no more of it to see that it may not be.
const tooMany = api.MaxLocks + 1

// laid is the forms of the numbers that something goes through.
func laid(goThrough func(tape)) string {
	var w codec.Writer
	goThrough(func(n int) int {
		w.Num(n)
		return n
	})
	return string(w.Bytes())
}

// taken lets something go through the numbers of a text, and tells whether the text is just their forms.
func taken(s string, goThrough func(tape)) bool {
	r := codec.NewReader([]byte(s))
	goThrough(func(int) int { return r.Num() })
	return r.Err() == api.OK && r.Left() == 0
}

// goThroughCommand goes through the numbers of a command.
func goThroughCommand(on tape, c *api.Command) {
	number(on, &c.Kind)
	number(on, &c.Server)
	number(on, &c.Boot)
	number(on, &c.Seq)
	number(on, &c.Gen)
	number(on, &c.Lock)
	number(on, &c.Mode)
	number(on, &c.Other)
	list(on, &c.Members, number[int])
	number(on, &c.D)
}

// goThroughState goes through the numbers of a state.
func goThroughState(on tape, t *api.State) {
	number(on, &t.Stores)
	number(on, &t.Time)
	config(on, &t.Config)
	for i := range t.Servers {
		member(on, &t.Servers[i])
	}
	for i := range t.Holders {
		for server := range t.Holders[i] {
			number(on, &t.Holders[i][server])
		}
		list(on, &t.Queues[i], waiter)
	}
}

// config goes through the numbers of a config.
func config(on tape, x *api.Config) {
	number(on, &x.Epoch)
	list(on, &x.Members, number[int])
	list(on, &x.Since, number[int])
}

// member goes through the numbers of what is known of a server.
func member(on tape, m *api.Member) {
	number(on, &m.Status)
	number(on, &m.Gen)
	number(on, &m.Expiry)
	helper(on, &m.Helper)
	number(on, &m.Boot)
	number(on, &m.Seq)
	number(on, &m.Answer.Code)
	number(on, &m.Answer.Gen)
	config(on, &m.Answer.Config)
	list(on, &m.Answer.Holds, hold)
	list(on, &m.Answer.Dead, dead)
}

// hold goes through the numbers of an answer's Hold.
func hold(on tape, h *api.Hold) {
	number(on, &h.Lock)
	number(on, &h.Mode)
	number(on, &h.Wanted)
}

// waiter goes through the numbers of a queue's Hold, whose Wanted is 0.
func waiter(on tape, h *api.Hold) {
	number(on, &h.Lock)
	number(on, &h.Mode)
}

// dead goes through the numbers of an answer's Dead.
func dead(on tape, d *api.Dead) {
	number(on, &d.Server)
	number(on, &d.Fence)
	helper(on, &d.Helper)
}

// number goes through one number.
func number[T ~int](on tape, n *T) {
	*n = T(on(int(*n)))
}

// helper goes through a Helper, which may be one below 0, and no form has such a number.
func helper(on tape, n *int) {
	*n = on(*n+1) - 1
}

// list goes through a list: how many things it has, then each. What comes of it is a list of its own, as the one that is handed in may be another's.
func list[T any](on tape, things *[]T, each func(tape, *T)) {
	was := *things
	n := on(len(was))
	var is []T
	for i := range min(n, tooMany) {
		var thing T
		if i < len(was) {
			thing = was[i]
		}
		each(on, &thing)
		is = append(is, thing)
	}
	*things = is
}
