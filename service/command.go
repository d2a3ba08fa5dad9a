package service

import (
	"slices"

	"lagoon/api"
)

// span is the numbers from one to another. The zero span is 0 alone: that of a field which a kind of commands doesn't use.
type span struct{ from, to int }

// has tells whether a number is one of the span's.
func (s span) has(n int) bool {
	return within(n, s.from, s.to)
}

// shape is what the fields of a kind of commands may be; of Members, how many there are.
type shape struct {
	server, boot, seq, gen, lock, mode, other, members, d span
}

// shapeOf is the shape of a kind of commands, and whether there is such a kind.
func shapeOf(kind api.CmdKind) (shape, bool) {
	server := span{0, api.MaxServers - 1}
	lock := span{0, api.MaxLocks - 1}
	count := span{1, api.MaxCount}
	s := shape{server: server, boot: count, seq: count, gen: span{0, api.MaxCount}, d: span{0, api.MaxPass}}
	switch kind {
	case api.CmdMount:
		s.gen = span{}
	case api.CmdRenew:
	case api.CmdLock:
		s.lock = lock
		s.mode = span{int(api.Shared), int(api.Sole)}
	case api.CmdUnlock:
		s.lock = lock
	case api.CmdHelp, api.CmdDone:
		s.other = server
	case api.CmdChain:
		s.members = span{1, api.MaxStores}
	case api.CmdPass:
		s = shape{d: span{1, api.MaxPass}}
	default:
		return shape{}, false
	}
	return s, true
}

// fits tells whether a command's fields are as the shape has them.
func (s shape) fits(c api.Command) bool {
	return s.server.has(c.Server) &&
		s.boot.has(c.Boot) &&
		s.seq.has(c.Seq) &&
		s.gen.has(c.Gen) &&
		s.lock.has(c.Lock) &&
		s.mode.has(int(c.Mode)) &&
		s.other.has(c.Other) &&
		s.d.has(c.D) &&
		s.members.has(len(c.Members)) &&
		!slices.ContainsFunc(c.Members, isNoNode)
}

// isNoNode tells whether no service's chain has such a storage node.
func isNoNode(i int) bool {
	return !within(i, 0, api.MaxStores-1)
}

// within tells whether a number is from one to another.
func within[T ~int](n, from, to T) bool {
	return from <= n && n <= to
}
