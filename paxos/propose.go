package paxos

import (
	"slices"

	"lagoon/api"
	"lagoon/service"
)

// firstServer is the address of server 0.
const firstServer = 8

// learn takes over what is behind a slot. What was under way or accepted for the slots up to it counts no more.
func (p *Peer) learn(now, slot int, state string) api.Errno {
	if err := p.acceptor.Learn(slot, state); err != api.OK {
		return err
	}
	p.best = api.Accepted{}
	p.value = ""
	p.mark = now
	return api.OK
}

// lead begins to lead. What one of the voters has accepted may be decided already, so it is proposed ahead of all else.
func (p *Peer) lead(now int) ([]api.Message, api.Errno) {
	p.role = leads
	p.mark = now
	if p.best.Ballot == 0 {
		return nil, api.OK
	}
	return p.propose(now, p.best.Value)
}

// proposeAt proposes a command, with as much time passed as has since the mark.
func (p *Peer) proposeAt(now int, c api.Command) ([]api.Message, api.Errno) {
	c.D = min(max(now-p.mark, 0), api.MaxPass)
	value, err := service.EncodeCommand(c)
	if err != api.OK {
		return nil, err
	}
	return p.propose(now, value)
}

// propose wants a value for the next slot.
func (p *Peer) propose(now int, value string) ([]api.Message, api.Errno) {
	p.value = value
	if err := p.acceptor.Accept(p.own, p.next(), value); err != api.OK {
		return nil, err
	}
	p.accepted = alone(p.id)
	if p.isMost(p.accepted) {
		return p.decide(now)
	}
	return p.proposals(), api.OK
}

// decide does what most have accepted.
func (p *Peer) decide(now int) ([]api.Message, api.Errno) {
	slot := p.next()
	state, answer := p.outcome(p.value)
	if err := p.learn(now, slot, state); err != api.OK {
		return nil, err
	}
	learned := p.toOthers(group{}, api.Message{Kind: api.MsgLearn, Slot: slot, State: state})
	return append(learned, answer...), api.OK
}

// outcome is the state behind a value, and the answer to whoever asked for it, if that was a server.
func (p *Peer) outcome(value string) (string, []api.Message) {
	c, err := service.DecodeCommand(value)
	if err != api.OK {
		return p.acceptor.State(), nil
	}
	t, view := service.Apply(p.State(), c)
	// There are such bytes: what Apply makes of a state that may be may be, too.
	state, _ := service.Encode(t)
	if c.Kind == api.CmdPass || !isLast(t, c) {
		return state, nil
	}
	return state, p.answer(c, view)
}

// isLast tells whether a command is the last one of its server that a state knows.
func isLast(t api.State, c api.Command) bool {
	m := t.Servers[c.Server]
	return c.Boot == m.Boot && c.Seq == m.Seq
}

// answer is what the service says to a command. Its lists are no other message's.
func (p *Peer) answer(c api.Command, view api.View) []api.Message {
	c.Members = slices.Clone(c.Members)
	return p.to(firstServer+c.Server, api.Message{Kind: api.MsgAnswer, Command: c, View: view})
}

// prepares asks all for a promise who haven't voted.
func (p *Peer) prepares() []api.Message {
	return p.toOthers(p.voted, api.Message{Kind: api.MsgPrepare, Ballot: p.own, Slot: p.next()})
}

// proposals asks all to accept the value under way who haven't.
func (p *Peer) proposals() []api.Message {
	accepted := api.Accepted{Ballot: p.own, Value: p.value}
	return p.toOthers(p.accepted, api.Message{Kind: api.MsgPropose, Ballot: p.own, Slot: p.next(), Accepted: accepted})
}
