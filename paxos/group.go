package paxos

import "lagoon/api"

// group is some of the peers.
type group [api.MaxPeers]bool

// alone is the group of one peer.
func alone(id int) group {
	var g group
	g[id] = true
	return g
}

// isMost tells whether more than half of the peers are in a group.
func (p *Peer) isMost(g group) bool {
	n := 0
	for _, in := range g {
		if in {
			n++
		}
	}
	return 2*n > p.peers()
}

// toOthers is a message to all other peers but those of a group, in the order of their numbers.
func (p *Peer) toOthers(but group, m api.Message) []api.Message {
	var out []api.Message
	for id := range p.peers() {
		if id != p.id && !but[id] {
			out = append(out, p.to(id, m)...)
		}
	}
	return out
}

// to is a message to one address.
func (p *Peer) to(address int, m api.Message) []api.Message {
	m.From, m.To = p.id, address
	return []api.Message{m}
}
