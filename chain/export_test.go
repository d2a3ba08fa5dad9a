package chain

import (
	"lagoon/replica"
	"lagoon/store"
)

// ReplicaOf is the replica of a storage node that is up: tests lay numbers there that no row of writes comes to.
func ReplicaOf(c *Chain, i int) *replica.Replica {
	return c.nodes[i].replica
}

// StoreOf is the store of a storage node.
func StoreOf(c *Chain, i int) *store.Store {
	return c.nodes[i].store
}
