package tree

import (
	"lagoon/api"
	"lagoon/layout"
)

// work is an operation under way, on a tree that may be, and that it alone has.
type work struct {
	tree   api.Tree
	prefer int
	op     api.Op
}

// done is the reply to the operation, which is done to the tree.
func (w *work) done() api.Reply {
	do, is := w.deeds()[w.op.Kind]
	if !is {
		return refused(api.ErrKind)
	}
	return do()
}

// deeds are what is done by each kind of operation. Each of them changes something only behind all its codes.
func (w *work) deeds() map[api.OpKind]func() api.Reply {
	return map[api.OpKind]func() api.Reply{
		api.OpLookup:  w.lookup,
		api.OpCreate:  w.create,
		api.OpMkdir:   w.mkdir,
		api.OpLink:    w.link,
		api.OpUnlink:  w.unlink,
		api.OpRmdir:   w.rmdir,
		api.OpRename:  w.rename,
		api.OpRead:    w.read,
		api.OpWrite:   w.write,
		api.OpTrunc:   w.trunc,
		api.OpStat:    w.stat,
		api.OpReaddir: w.readdir,
		api.OpSync:    w.sync,
	}
}

// refused is the reply of a code alone.
func refused(code api.Errno) api.Reply {
	return api.Reply{Code: code}
}

// told is the reply that tells an inode's handle and kind.
func (w *work) told(ino int) api.Reply {
	n := &w.tree[ino]
	return api.Reply{Handle: api.Handle{Ino: ino, Gen: n.Gen}, Kind: n.Kind}
}

// node is what a handle leads to, if it is good.
func (w *work) node(h api.Handle) (*api.Node, api.Errno) {
	if !isInode(h.Ino) {
		return nil, api.ErrHandle
	}
	n := &w.tree[h.Ino]
	if n.Kind == api.None || n.Gen != h.Gen {
		return nil, api.ErrHandle
	}
	return n, api.OK
}

// file is the file that a handle leads to.
func (w *work) file(h api.Handle) (*api.Node, api.Errno) {
	n, err := w.node(h)
	if err == api.OK && n.Kind == api.Dir {
		return nil, api.ErrIsDir
	}
	return n, err
}

// dir is the directory that a handle leads to.
func (w *work) dir(h api.Handle) (*api.Node, api.Errno) {
	n, err := w.node(h)
	if err == api.OK && n.Kind == api.File {
		return nil, api.ErrNotDir
	}
	return n, err
}

// slot is a name in a directory, and the inode that its entry leads to. Where there is no entry, that is inode 0, to which none leads.
type slot struct {
	dir  *api.Node
	name string
	to   int
}

// slotOf is the slot of a handle and a name.
func (w *work) slotOf(h api.Handle, name string) (slot, api.Errno) {
	dir, err := w.dir(h)
	if err != api.OK {
		return slot{}, err
	}
	if !layout.Name(name) {
		return slot{}, api.ErrName
	}
	s := slot{dir: dir, name: name}
	if at, is := placeOf(dir.Entries, name); is {
		s.to = dir.Entries[at].Ino
	}
	return s, api.OK
}

// filled is the slot of a handle and a name, if it has an entry.
func (w *work) filled(h api.Handle, name string) (slot, api.Errno) {
	s, err := w.slotOf(h, name)
	if err == api.OK && !s.isFilled() {
		return slot{}, api.ErrNoEnt
	}
	return s, err
}

// empty is the slot of a handle and a name, if it has no entry.
func (w *work) empty(h api.Handle, name string) (slot, api.Errno) {
	s, err := w.slotOf(h, name)
	if err == api.OK && s.isFilled() {
		return slot{}, api.ErrExist
	}
	return s, err
}

// isFilled tells whether a slot has an entry.
func (s slot) isFilled() bool {
	return s.to != rootIno
}

// mayHave tells whether there is room for a directory to have other entries than it has.
func (w *work) mayHave(dir *api.Node, l []api.Entry) bool {
	return len(l) <= api.MaxEntries && w.hasRoom(pieces(l)-pieces(dir.Entries))
}

// hasRoom tells whether there is room for so many data blocks more.
func (w *work) hasRoom(more int) bool {
	return Used(w.tree)+more <= mostBlocks
}
