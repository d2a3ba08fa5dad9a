package client

import (
	"slices"

	"lagoon/api"
)

// firstServer is the address of server 0.
const firstServer = 8

// request is a command that the service is asked for.
type request struct {
	command     api.Command
	first, last int // when it was sent
}

// to is the message that brings it to a peer.
func (r request) to(peer int) api.Message {
	return api.Message{
		Kind:    api.MsgRequest,
		From:    firstServer + r.command.Server,
		To:      peer,
		Command: copied(r.command),
	}
}

// isAnsweredBy tells whether an answer is to this request. Nothing but its three numbers counts, as these are never used twice.
func (r request) isAnsweredBy(m api.Message) bool {
	c := m.Command
	return c.Server == r.command.Server && c.Boot == r.command.Boot && c.Seq == r.command.Seq
}

// copied is a command that shares no list with another one.
func copied(c api.Command) api.Command {
	c.Members = slices.Clone(c.Members)
	return c
}
