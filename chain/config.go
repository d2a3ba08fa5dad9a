package chain

import (
	"slices"

	"lagoon/api"
)

// firstEpoch is that of a new chain's config.
const firstEpoch = 1

// First: the config of a new chain.
func First(n int) (api.Config, api.Errno) {
	if !isCount(n) {
		return api.Config{}, api.ErrRange
	}
	x := api.Config{Epoch: firstEpoch}
	for i := range n {
		add(&x, i, firstEpoch)
	}
	return x, api.OK
}

// Next: the config behind another one, with these members. Those that stay keep their order, ahead of those that come anew, so that whoever is ahead of another one has no less.
func Next(c api.Config, members []int) (api.Config, api.Errno) {
	if !mayBe(c, api.MaxStores) || c.Epoch == api.MaxCount || !areMembers(members, api.MaxStores) {
		return api.Config{}, api.ErrRange
	}
	next := api.Config{Epoch: c.Epoch + 1}
	for i, m := range c.Members {
		if slices.Contains(members, m) {
			add(&next, m, c.Since[i])
		}
	}
	if len(next.Members) == 0 {
		return api.Config{}, api.ErrLost
	}
	for _, m := range members {
		if !slices.Contains(c.Members, m) {
			add(&next, m, next.Epoch)
		}
	}
	return next, api.OK
}

// add puts a member behind those of a config.
func add(x *api.Config, m, since int) {
	x.Members = append(x.Members, m)
	x.Since = append(x.Since, since)
}

// mayBe tells whether a config may be of a chain of n nodes.
func mayBe(x api.Config, n int) bool {
	isAmiss := func(since int) bool { return !within(since, 1, x.Epoch) }
	return within(x.Epoch, 1, api.MaxCount) &&
		areMembers(x.Members, n) &&
		len(x.Since) == len(x.Members) &&
		!slices.ContainsFunc(x.Since, isAmiss)
}

// areMembers tells whether these may be members of a config of n nodes. More than n can't all be unlike, so long lists needn't be looked at.
func areMembers(members []int, n int) bool {
	if !within(len(members), 1, n) {
		return false
	}
	for i, m := range members {
		if !within(m, 0, n-1) || slices.Contains(members[:i], m) {
			return false
		}
	}
	return true
}

// isCount tells whether a chain may have so many storage nodes.
func isCount(n int) bool {
	return within(n, 1, api.MaxStores)
}

// isBlock tells whether there is a block b.
func isBlock(b int) bool {
	return within(b, 0, api.MaxBlocks-1)
}

// isServer tells whether there is such a server.
func isServer(server int) bool {
	return within(server, 0, api.MaxServers-1)
}

// isGen tells whether a server's life may be of a generation.
func isGen(gen int) bool {
	return within(gen, 1, api.MaxCount)
}

// within tells whether a number is from one to another.
func within(n, from, to int) bool {
	return from <= n && n <= to
}
