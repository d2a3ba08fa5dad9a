package paxos

import (
	"lagoon/api"
	"lagoon/service"
)

// hearing is what is done with a message, at a moment.
type hearing func(p *Peer, now int, m api.Message) ([]api.Message, api.Errno)

// hearings are those of all kinds that a peer hears.
func hearings() map[api.MsgKind]hearing {
	return map[api.MsgKind]hearing{
		api.MsgPrepare:  (*Peer).hearPrepare,
		api.MsgPromise:  (*Peer).hearPromise,
		api.MsgPropose:  (*Peer).hearPropose,
		api.MsgAccepted: (*Peer).hearAccepted,
		api.MsgLearn:    (*Peer).hearLearn,
		api.MsgNack:     (*Peer).hearNack,
		api.MsgRequest:  (*Peer).hearRequest,
	}
}

// mayCome tells whether a message is from where its kind comes: a request from a server, all others from another peer.
func (p *Peer) mayCome(m api.Message) bool {
	if m.Kind == api.MsgRequest {
		return firstServer <= m.From && m.From < firstServer+api.MaxServers
	}
	return 0 <= m.From && m.From < p.peers() && m.From != p.id
}

// hearPrepare: another peer stands.
func (p *Peer) hearPrepare(now int, m api.Message) ([]api.Message, api.Errno) {
	if p.isLow(m.Ballot) {
		return p.nack(m.From), api.OK
	}
	if err := p.acceptor.Promise(m.Ballot); err != api.OK {
		return nil, err
	}
	p.giveWay(m.Ballot)
	promise := api.Message{Kind: api.MsgPromise, Ballot: m.Ballot, Slot: p.next(), Accepted: p.acceptor.Pending()}
	if m.Slot < p.next() {
		promise.State = p.acceptor.State()
	}
	return p.to(m.From, promise), api.OK
}

// hearPromise: another peer votes. One that is ahead has told what is behind the slots ahead of its own next one, so that what it has accepted is for the next slot here too.
func (p *Peer) hearPromise(now int, m api.Message) ([]api.Message, api.Errno) {
	if p.role != stands || m.Ballot != p.own {
		return nil, api.OK
	}
	if m.Slot > p.next() {
		if !isState(m.State) {
			return nil, api.OK
		}
		if err := p.learn(now, m.Slot-1, m.State); err != api.OK {
			return nil, err
		}
	}
	p.voted[m.From] = true
	if m.Slot == p.next() && m.Accepted.Ballot > p.best.Ballot {
		p.best = m.Accepted
	}
	if !p.isMost(p.voted) {
		return nil, api.OK
	}
	return p.lead(now)
}

// hearPropose: a leader wants a value.
func (p *Peer) hearPropose(now int, m api.Message) ([]api.Message, api.Errno) {
	switch {
	case p.isLow(m.Ballot):
		return p.nack(m.From), api.OK
	case m.Slot < p.next():
		return p.tellState(m.From), api.OK
	case m.Slot > p.next():
		return p.nack(m.From), api.OK
	}
	p.giveWay(m.Ballot)
	switch err := p.acceptor.Accept(m.Ballot, m.Slot, m.Accepted.Value); err {
	case api.OK:
		return p.to(m.From, api.Message{Kind: api.MsgAccepted, Ballot: m.Ballot, Slot: m.Slot}), api.OK
	case api.ErrRange, api.ErrBallot:
		return nil, api.OK
	default:
		return nil, err
	}
}

// hearAccepted: another peer has accepted what is under way.
func (p *Peer) hearAccepted(now int, m api.Message) ([]api.Message, api.Errno) {
	if p.role != leads || !p.isBusy() || m.Ballot != p.own || m.Slot != p.next() {
		return nil, api.OK
	}
	p.accepted[m.From] = true
	if !p.isMost(p.accepted) {
		return nil, api.OK
	}
	return p.decide(now)
}

// hearLearn: another peer tells what is behind a slot.
func (p *Peer) hearLearn(now int, m api.Message) ([]api.Message, api.Errno) {
	if m.Slot < p.next() || m.Slot > api.MaxCount || !isState(m.State) {
		return nil, api.OK
	}
	return nil, p.learn(now, m.Slot, m.State)
}

// hearNack: another peer has promised a higher ballot, or is behind.
func (p *Peer) hearNack(now int, m api.Message) ([]api.Message, api.Errno) {
	p.giveWay(m.Ballot)
	if p.role != leads || m.Slot >= p.next() {
		return nil, api.OK
	}
	return p.tellState(m.From), api.OK
}

// hearRequest: a server asks the service. Its last command is answered as it was then, as long as no later one is done.
func (p *Peer) hearRequest(now int, m api.Message) ([]api.Message, api.Errno) {
	c := m.Command
	if p.role != leads || !isRequest(c) || m.From != firstServer+c.Server {
		return nil, api.OK
	}
	t := p.State()
	if isLast(t, c) {
		return p.answer(c, t.Servers[c.Server].Answer), api.OK
	}
	if _, view := service.Apply(t, c); view.Code == api.ErrStale || p.isBusy() {
		return nil, api.OK
	}
	return p.proposeAt(now, c)
}

// isRequest tells whether a server may ask for a command: how much time has passed the leader alone tells.
func isRequest(c api.Command) bool {
	return service.ValidCommand(c) && c.Kind != api.CmdPass && c.D == 0
}

// isLow tells whether a ballot is one that isn't heard any more, or none.
func (p *Peer) isLow(ballot int) bool {
	return ballot < max(1, p.acceptor.Promised())
}

// giveWay lets a peer follow, if a ballot is above its own.
func (p *Peer) giveWay(ballot int) {
	if ballot > p.own {
		p.role = follows
	}
}

// nack tells a peer what was promised, and how far this one is.
func (p *Peer) nack(to int) []api.Message {
	return p.to(to, api.Message{Kind: api.MsgNack, Ballot: p.acceptor.Promised(), Slot: p.next()})
}

// tellState tells a peer that is behind what this one knows.
func (p *Peer) tellState(to int) []api.Message {
	return p.to(to, api.Message{Kind: api.MsgLearn, Slot: p.acceptor.Done(), State: p.acceptor.State()})
}
