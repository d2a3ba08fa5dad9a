package chain

import (
	"slices"

	"lagoon/api"
	"lagoon/replica"
)

// row is a config's members, from the head on.
type row []member

// member is a storage node in a config, and since which epoch it is in it.
type member struct {
	*node
	since int
}

// head is the replica that takes a write first.
func (r row) head() *replica.Replica {
	return r[0].replica
}

// tail is the replica that is read.
func (r row) tail() *replica.Replica {
	return r[len(r)-1].replica
}

// install brings a row into an epoch: behind it all members have all.
func (r row) install(epoch int) api.Errno {
	var source *replica.Replica
	return inOrder(
		func() api.Errno {
			return r.refuse(api.ErrDown, func(m member) bool { return !m.up() })
		},
		func() api.Errno {
			return r.refuse(api.ErrEpoch, func(m member) bool { return m.replica.Meta().Epoch > epoch })
		},
		func() (err api.Errno) {
			source, err = r.lastWithAll()
			return err
		},
		func() api.Errno {
			return r.ask(func(p *replica.Replica) api.Errno { return p.Adopt(epoch) })
		},
		func() api.Errno {
			return r.each(func(m member) api.Errno { return m.takeOver(source) })
		},
	)
}

// refuse is the error, if a member is as it must not be.
func (r row) refuse(err api.Errno, isAmiss func(member) bool) api.Errno {
	if slices.ContainsFunc(r, isAmiss) {
		return err
	}
	return api.OK
}

// lastWithAll is the replica that those take over from which haven't all.
func (r row) lastWithAll() (*replica.Replica, api.Errno) {
	for _, m := range slices.Backward(r) {
		if m.hasAll() {
			return m.replica, api.OK
		}
	}
	return nil, api.ErrLost
}

// loadAll brings the whole row to a replica's blocks.
func (r row) loadAll(from *replica.Replica) api.Errno {
	for b := range api.MaxBlocks {
		x := from.Block(b)
		err := r.ask(func(p *replica.Replica) api.Errno { return p.Load(b, x) })
		if err != api.OK {
			return err
		}
	}
	return api.OK
}

// ask makes a call on each replica of the row, in order, up to the first error.
func (r row) ask(call func(*replica.Replica) api.Errno) api.Errno {
	return r.each(func(m member) api.Errno { return m.ask(call) })
}

// each does a thing with each member, in order, up to the first error.
func (r row) each(do func(member) api.Errno) api.Errno {
	for _, m := range r {
		if err := do(m); err != api.OK {
			return err
		}
	}
	return api.OK
}

// hasAll tells whether it missed nothing since it came into the config.
func (m member) hasAll() bool {
	return m.replica.Meta().Joined == m.since
}

// takeOver brings a member that hasn't all what another one has. It joins last: whatever fails ahead of that, it still hasn't all.
func (m member) takeOver(from *replica.Replica) api.Errno {
	if m.hasAll() {
		return api.OK
	}
	return inOrder(
		func() api.Errno { return row{m}.loadAll(from) },
		func() api.Errno { return m.fenceAll(from.Meta().Fences) },
		func() api.Errno {
			return m.ask(func(p *replica.Replica) api.Errno { return p.Join(m.since) })
		},
	)
}

// fenceAll brings it these fences; 0 is none.
func (m member) fenceAll(fences [api.MaxServers]int) api.Errno {
	for server, gen := range fences {
		if gen == 0 {
			continue
		}
		err := m.ask(func(p *replica.Replica) api.Errno { return p.Fence(server, gen) })
		if err != api.OK {
			return err
		}
	}
	return api.OK
}

// inOrder takes steps, one behind the other, up to the first error.
func inOrder(steps ...func() api.Errno) api.Errno {
	for _, step := range steps {
		if err := step(); err != api.OK {
			return err
		}
	}
	return api.OK
}
