package locks

import (
	"slices"

	"lagoon/api"
)

// row is one lock of the table: in which mode each server holds it, and who waits for it.
type row struct {
	holders [api.MaxServers]api.Mode
	queue   []api.Hold
}

// mayBe tells whether a row may be.
func (r row) mayBe() bool {
	return r.holdersMayBe() && r.queueMayBe() && !r.firstCanGo()
}

// holdersMayBe tells whether all are held in modes, and each two in modes that go together.
func (r row) holdersMayBe() bool {
	for server, mode := range r.holders {
		if !isMode(mode) {
			return false
		}
		for _, other := range r.holders[:server] {
			if !Goes(mode, other) {
				return false
			}
		}
	}
	return true
}

// queueMayBe tells whether each one in the queue may wait, and none stands there twice.
func (r row) queueMayBe() bool {
	for i, h := range r.queue {
		if !r.mayWait(h) {
			return false
		}
		if from, _ := r.stretch(h.Lock); from != i {
			return false
		}
	}
	return true
}

// mayWait tells whether a Hold may stand in the queue.
func (r row) mayWait(h api.Hold) bool {
	return isServer(h.Lock) && isWish(h.Mode) && h.Mode > r.holders[h.Lock] && h.Wanted == api.Free
}

// stretch is the piece of the queue in which a server stands; an empty one at its end, if it doesn't.
func (r row) stretch(server int) (from, to int) {
	for i, h := range r.queue {
		if h.Lock == server {
			return i, i + 1
		}
	}
	return len(r.queue), len(r.queue)
}

// firstCanGo tells whether there is a first one that can have the lock beside what the others hold.
func (r row) firstCanGo() bool {
	if len(r.queue) == 0 {
		return false
	}
	first := r.queue[0]
	for server, mode := range r.holders {
		if server != first.Lock && !Goes(first.Mode, mode) {
			return false
		}
	}
	return true
}

// goneOn is the row behind giving the lock to the first ones, as long as they can have it.
func (r row) goneOn() row {
	for r.firstCanGo() {
		first := r.queue[0]
		r.holders[first.Lock] = first.Mode
		r.queue = spliced(r.queue, 0, 1)
	}
	return r
}

// asked is the row behind a server's asking for the lock, before it is let go on. Who waits already keeps its place.
func (r row) asked(server int, mode api.Mode) row {
	has := r.holders[server]
	from, to := r.stretch(server)
	for _, h := range r.queue[from:to] {
		has = h.Mode // it waits for more than it holds
	}
	if has < mode {
		r.queue = spliced(r.queue, from, to, api.Hold{Lock: server, Mode: mode})
	}
	return r
}

// freed is the row without a server, before it is let go on.
func (r row) freed(server int) row {
	r.holders[server] = api.Free
	from, to := r.stretch(server)
	r.queue = spliced(r.queue, from, to)
	return r
}

// wanted is the mode that the first one waits for, if that is another server, and it can't have it beside what this one holds; else Free.
func (r row) wanted(server int) api.Mode {
	if len(r.queue) == 0 {
		return api.Free
	}
	first := r.queue[0]
	if first.Lock == server || Goes(first.Mode, r.holders[server]) {
		return api.Free
	}
	return first.Mode
}

// spliced is a list of new memory, in which these things stand in place of those from one place up to another.
func spliced[T any](list []T, from, to int, things ...T) []T {
	return slices.Concat(list[:from], things, list[to:])
}
