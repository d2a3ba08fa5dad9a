package cache

import "lagoon/api"

// known is what is known of a block: its value, and what it still waits for.
type known struct {
	api.Block
	dirty    bool // it isn't in its place yet
	unlogged int  // how many records that aren't in the log yet bring it
}

// changed is the block behind an update of a record that isn't in the log yet.
func (k known) changed(x api.Update) known {
	return known{Block: api.Block{Ver: x.Ver, Data: x.Data}, dirty: true, unlogged: k.unlogged + 1}
}

// logged is the block when one of the records that bring it has come into the log.
func (k known) logged() known {
	k.unlogged--
	return k
}

// ready tells whether the block may be written in its place.
func (k known) ready() bool {
	return k.dirty && k.unlogged == 0
}
