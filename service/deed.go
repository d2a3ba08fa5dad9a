package service

import (
	"slices"

	"lagoon/api"
	"lagoon/chain"
	"lagoon/locks"
)

// deed is what a kind of commands does to a state that may be. It answers the Code.
type deed func(t *api.State, c api.Command) api.Errno

// deeds are those of all kinds but CmdPass: that is no server's, so no answer to it is kept.
func deeds() map[api.CmdKind]deed {
	return map[api.CmdKind]deed{
		api.CmdMount:  mount,
		api.CmdRenew:  ofAlive(renew),
		api.CmdLock:   ofAlive(lock),
		api.CmdUnlock: ofAlive(unlock),
		api.CmdChain:  ofAlive(link),
		api.CmdHelp:   ofHelper(help),
		api.CmdDone:   ofHelper(done),
	}
}

// apply does a command that may be to a state that may be, and answers its view. The last command of a server that comes again is answered as it was then, and nothing is done.
func apply(t *api.State, c api.Command) api.View {
	if c.Kind == api.CmdPass {
		return api.View{Code: pass(t, c.D)}
	}
	m := &t.Servers[c.Server]
	if isStale(*m, c) {
		return api.View{Code: api.ErrStale}
	}
	if c.Boot == m.Boot && c.Seq == m.Seq {
		return copiedView(m.Answer)
	}
	if err := pass(t, c.D); err != api.OK {
		return api.View{Code: err}
	}
	m.Boot, m.Seq = c.Boot, c.Seq
	code := deeds()[c.Kind](t, c)
	m.Answer = viewOf(t, c.Server, code)
	return viewOf(t, c.Server, code)
}

// isStale tells whether a command is neither the last one of its server, nor the next one, nor the first one of a later life.
func isStale(m api.Member, c api.Command) bool {
	if c.Boot == m.Boot {
		return c.Seq != m.Seq && c.Seq != m.Seq+1
	}
	return c.Boot < m.Boot || c.Seq != 1
}

// pass lets time pass, and with it the leases that are out.
func pass(t *api.State, d int) api.Errno {
	if t.Time+d > api.MaxTime {
		return api.ErrTime
	}
	t.Time += d
	for i := range t.Servers {
		if m := &t.Servers[i]; m.Status == api.Alive && m.Expiry < t.Time {
			die(m)
		}
	}
	return api.OK
}

// die makes a server one that is Gone, and that nobody helps yet.
func die(m *api.Member) {
	m.Status = api.Gone
	m.Helper = nobody
}

// isAlive tells whether a command's server is Alive in the generation that the command tells.
func isAlive(t *api.State, c api.Command) bool {
	m := &t.Servers[c.Server]
	return m.Status == api.Alive && m.Gen == c.Gen
}

// ofAlive is a deed that is refused to a server that isn't Alive in the generation that the command tells.
func ofAlive(do deed) deed {
	return func(t *api.State, c api.Command) api.Errno {
		if !isAlive(t, c) {
			return api.ErrDead
		}
		return do(t, c)
	}
}

// ofHelper is a deed for a server that is Gone, done by another one that is Alive, or by itself, which then needn't be mounted.
func ofHelper(do deed) deed {
	return func(t *api.State, c api.Command) api.Errno {
		if c.Other != c.Server && !isAlive(t, c) {
			return api.ErrDead
		}
		if t.Servers[c.Other].Status != api.Gone {
			return api.ErrUnknown
		}
		return do(t, c)
	}
}

// mount begins a generation of a server that is Absent. One that is Alive has died without its lease being out: it must be helped first.
func mount(t *api.State, c api.Command) api.Errno {
	m := &t.Servers[c.Server]
	if m.Status == api.Alive {
		die(m)
	}
	if m.Status == api.Gone {
		return api.ErrDead
	}
	if m.Gen == api.MaxCount {
		return api.ErrWorn
	}
	m.Status = api.Alive
	m.Gen++
	m.Expiry = t.Time + api.Lease
	m.Helper = nobody
	return api.OK
}

// renew gives the server a new lease.
func renew(t *api.State, c api.Command) api.Errno {
	t.Servers[c.Server].Expiry = t.Time + api.Lease
	return api.OK
}

// lock gives the server a lock, or lets it wait for it.
func lock(t *api.State, c api.Command) api.Errno {
	next, err := locks.Ask(*t, c.Lock, c.Server, c.Mode)
	return become(t, next, err)
}

// unlock takes a lock from the server.
func unlock(t *api.State, c api.Command) api.Errno {
	next, err := locks.Free(*t, c.Lock, c.Server)
	return become(t, next, err)
}

// become makes a state another one, if that was answered without an error.
func become(t *api.State, next api.State, err api.Errno) api.Errno {
	if err == api.OK {
		*t = next
	}
	return err
}

// link makes the chain's config the next one, with the command's members.
func link(t *api.State, c api.Command) api.Errno {
	next, err := chain.Next(t.Config, c.Members)
	if err != api.OK {
		return err
	}
	isBeyond := func(i int) bool { return i >= t.Stores }
	if slices.ContainsFunc(next.Members, isBeyond) {
		return api.ErrRange
	}
	t.Config = next
	return api.OK
}

// help makes the server the Helper of one that is Gone, unless another one helps it that is Alive.
func help(t *api.State, c api.Command) api.Errno {
	other := &t.Servers[c.Other]
	if other.Helper != c.Server && hasAliveHelper(t, c.Other) {
		return api.ErrHeld
	}
	other.Helper = c.Server
	return api.OK
}

// hasAliveHelper tells whether the Helper of a server is Alive. Whoever is Gone and helps itself has none.
func hasAliveHelper(t *api.State, server int) bool {
	helper := t.Servers[server].Helper
	return helper != nobody && t.Servers[helper].Status == api.Alive
}

// done makes a server Absent whose Helper has put its log in order.
func done(t *api.State, c api.Command) api.Errno {
	if t.Servers[c.Other].Helper != c.Server {
		return api.ErrUnknown
	}
	*t = locks.Drop(*t, c.Other)
	t.Servers[c.Other].Status = api.Absent
	t.Servers[c.Other].Helper = nobody
	return api.OK
}
