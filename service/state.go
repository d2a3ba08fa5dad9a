package service

import (
	"slices"

	"lagoon/api"
	"lagoon/locks"
)

// maxCode is the greatest Code that an answer may have.
const maxCode = 99

// configMayBe tells whether a config may be of a chain of so many storage nodes. More than these can't all be unlike, so long lists needn't be looked at.
func configMayBe(x api.Config, stores int) bool {
	if !within(x.Epoch, 1, api.MaxCount) || !within(len(x.Members), 1, stores) || len(x.Since) != len(x.Members) {
		return false
	}
	for i, m := range x.Members {
		if !within(m, 0, stores-1) || slices.Contains(x.Members[:i], m) || !within(x.Since[i], 1, x.Epoch) {
			return false
		}
	}
	return true
}

// serversMayBe tells whether what is known of each server may be.
func serversMayBe(t api.State) bool {
	for _, m := range t.Servers {
		if !memberMayBe(m) || !answerMayBe(m.Answer, t.Stores) {
			return false
		}
	}
	return true
}

// memberMayBe tells whether what is known of a server may be, but for its answer.
func memberMayBe(m api.Member) bool {
	return within(m.Status, api.Absent, api.Gone) &&
		within(m.Gen, 0, api.MaxCount) &&
		within(m.Boot, 0, api.MaxCount) &&
		within(m.Seq, 0, api.MaxCount) &&
		within(m.Expiry, 0, api.MaxTime+api.Lease) &&
		isHelper(m.Helper)
}

// answerMayBe tells whether a server's answer may be.
func answerMayBe(v api.View, stores int) bool {
	return within(v.Code, api.OK, maxCode) &&
		within(v.Gen, 0, api.MaxCount) &&
		(isNoConfig(v.Config) || configMayBe(v.Config, stores)) &&
		len(v.Holds) <= api.MaxLocks && !slices.ContainsFunc(v.Holds, isAmissHold) &&
		len(v.Dead) <= api.MaxServers && !slices.ContainsFunc(v.Dead, isAmissDead)
}

// isNoConfig tells whether a config is all zero.
func isNoConfig(x api.Config) bool {
	return x.Epoch == 0 && len(x.Members) == 0 && len(x.Since) == 0
}

// isAmissHold tells whether no answer may have such a Hold.
func isAmissHold(h api.Hold) bool {
	return !within(h.Lock, 0, api.MaxLocks-1) || !isMode(h.Mode) || !isMode(h.Wanted)
}

// isMode tells whether a number is a mode.
func isMode(m api.Mode) bool {
	return within(m, api.Free, api.Sole)
}

// isAmissDead tells whether no answer may have such a Dead. A fence is one more than a generation.
func isAmissDead(d api.Dead) bool {
	return !within(d.Server, 0, api.MaxServers-1) || !within(d.Fence, 0, api.MaxCount+1) || !isHelper(d.Helper)
}

// isHelper tells whether a number may be a Helper.
func isHelper(n int) bool {
	return within(n, nobody, api.MaxServers-1)
}

// viewOf is the view for a server, with a Code. Its lists are new memory.
func viewOf(t *api.State, server int, code api.Errno) api.View {
	m := &t.Servers[server]
	v := api.View{Code: code, Gen: m.Gen, Config: copiedConfig(t.Config), Dead: deadOf(t)}
	if m.Status == api.Alive {
		v.Holds = locks.Holds(*t, server)
	}
	return v
}

// deadOf is those that are Gone, each with its fence and its Helper.
func deadOf(t *api.State) []api.Dead {
	var dead []api.Dead
	for i, m := range t.Servers {
		if m.Status == api.Gone {
			dead = append(dead, api.Dead{Server: i, Fence: m.Gen + 1, Helper: m.Helper})
		}
	}
	return dead
}

// copied is a state that shares no list with another one.
func copied(t api.State) api.State {
	t.Config = copiedConfig(t.Config)
	for i := range t.Servers {
		t.Servers[i].Answer = copiedView(t.Servers[i].Answer)
	}
	for lock, queue := range t.Queues {
		t.Queues[lock] = slices.Clone(queue)
	}
	return t
}

// copiedView is a view that shares no list with another one.
func copiedView(v api.View) api.View {
	v.Config = copiedConfig(v.Config)
	v.Holds = slices.Clone(v.Holds)
	v.Dead = slices.Clone(v.Dead)
	return v
}

// copiedConfig is a config that shares no list with another one.
func copiedConfig(x api.Config) api.Config {
	x.Members = slices.Clone(x.Members)
	x.Since = slices.Clone(x.Since)
	return x
}
