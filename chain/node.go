package chain

import (
	"lagoon/api"
	"lagoon/replica"
	"lagoon/store"
)

// node is a storage node.
type node struct {
	store   *store.Store
	replica *replica.Replica // nil, as long as the node is down
}

// begin makes a storage node of a new chain, which is in it from epoch 1 on.
func begin() (*node, api.Errno) {
	s, err := store.New(replica.Need)
	if err != api.OK {
		return nil, err
	}
	n := &node{store: s}
	return n, inOrder(
		n.open,
		func() api.Errno { return n.replica.Adopt(firstEpoch) },
		func() api.Errno { return n.replica.Join(firstEpoch) },
	)
}

// open opens the replica of what stands in the store.
func (n *node) open() api.Errno {
	r, err := replica.Open(n.store)
	n.replica = r
	return err
}

// up tells whether it is up.
func (n *node) up() bool {
	return n.replica != nil
}

// fail is the end of its power.
func (n *node) fail() {
	n.store.Fail()
	n.replica = nil
}

// revive brings it back. Its power fails first, if only to be armed no more.
func (n *node) revive(keep int, torn bool) api.Errno {
	n.store.Fail()
	return inOrder(
		func() api.Errno { return n.store.Revive(keep, torn) },
		n.open,
	)
}

// ask is what its replica answers to a call. One whose power fails in it is down.
func (n *node) ask(call func(*replica.Replica) api.Errno) api.Errno {
	err := call(n.replica)
	if err == api.ErrPower {
		n.replica = nil
		return api.ErrDown
	}
	return err
}
