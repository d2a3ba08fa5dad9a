package tree

import (
	"strings"

	"lagoon/api"
)

// lookup tells what an entry leads to.
func (w *work) lookup() api.Reply {
	s, err := w.filled(w.op.At, w.op.Name)
	if err != api.OK {
		return refused(err)
	}
	return w.told(s.to)
}

// create makes a file.
func (w *work) create() api.Reply {
	return w.made(api.Node{Kind: api.File, Links: 1})
}

// mkdir makes a directory.
func (w *work) mkdir() api.Reply {
	return w.made(api.Node{Kind: api.Dir, Links: 1, Parent: w.op.At.Ino})
}

// made lets a new entry lead to a new node.
func (w *work) made(n api.Node) api.Reply {
	s, err := w.empty(w.op.At, w.op.Name)
	if err != api.OK {
		return refused(err)
	}
	ino, is := w.unused()
	entries := with(s.dir.Entries, s.name, ino)
	if !is || !w.mayHave(s.dir, entries) {
		return refused(api.ErrNoSpace)
	}
	s.dir.Entries = entries
	n.Gen = w.tree[ino].Gen + 1
	w.tree[ino] = n
	return w.told(ino)
}

// unused is the inode that is made next, if there is one: the least of the half that is preferred, or else of the other half.
func (w *work) unused() (int, bool) {
	first := 0
	if w.prefer%2 != 0 {
		first = api.SegInodes
	}
	for i := range api.MaxInodes {
		ino := (first + i) % api.MaxInodes
		if n := &w.tree[ino]; n.Kind == api.None && n.Gen < api.MaxCount {
			return ino, true
		}
	}
	return 0, false
}

// link lets a new entry lead to a file.
func (w *work) link() api.Reply {
	n, err := w.file(w.op.At)
	if err != api.OK {
		return refused(err)
	}
	s, err := w.empty(w.op.To, w.op.Toname)
	if err != api.OK {
		return refused(err)
	}
	if n.Links == api.MaxLinks {
		return refused(api.ErrLinks)
	}
	entries := with(s.dir.Entries, s.name, w.op.At.Ino)
	if !w.mayHave(s.dir, entries) {
		return refused(api.ErrNoSpace)
	}
	s.dir.Entries = entries
	n.Links++
	return api.Reply{}
}

// unlink takes an entry away that leads to a file.
func (w *work) unlink() api.Reply {
	s, err := w.filled(w.op.At, w.op.Name)
	if err != api.OK {
		return refused(err)
	}
	if w.isDir(s.to) {
		return refused(api.ErrIsDir)
	}
	return w.removed(s)
}

// rmdir takes an entry away that leads to a directory without entries.
func (w *work) rmdir() api.Reply {
	s, err := w.filled(w.op.At, w.op.Name)
	if err != api.OK {
		return refused(err)
	}
	if !w.isDir(s.to) {
		return refused(api.ErrNotDir)
	}
	if w.hasEntries(s.to) {
		return refused(api.ErrNotEmpty)
	}
	return w.removed(s)
}

// removed takes an entry away, and from what it led to the link.
func (w *work) removed(s slot) api.Reply {
	s.dir.Entries = without(s.dir.Entries, s.name)
	w.loseLink(s.to)
	return api.Reply{}
}

// rename takes an entry away, and lets another one lead there instead.
func (w *work) rename() api.Reply {
	from, err := w.slotOf(w.op.At, w.op.Name)
	if err != api.OK {
		return refused(err)
	}
	onto, err := w.slotOf(w.op.To, w.op.Toname)
	if err != api.OK {
		return refused(err)
	}
	if !from.isFilled() {
		return refused(api.ErrNoEnt)
	}
	if w.isDir(from.to) && isBelow(w.tree, w.op.To.Ino, from.to) {
		return refused(api.ErrLoop)
	}
	if from.to == onto.to {
		return api.Reply{}
	}
	if err := w.replaceable(from, onto); err != api.OK {
		return refused(err)
	}
	return w.moved(from, onto)
}

// replaceable is the code, if what an entry leads to may not take the place of what the other one leads to.
func (w *work) replaceable(from, onto slot) api.Errno {
	switch {
	case !onto.isFilled():
		return api.OK
	case w.isDir(from.to) && !w.isDir(onto.to):
		return api.ErrNotDir
	case !w.isDir(from.to) && w.isDir(onto.to):
		return api.ErrIsDir
	case w.hasEntries(onto.to):
		return api.ErrNotEmpty
	}
	return api.OK
}

// moved takes an entry out of one slot, and puts it into another, which loses its own.
func (w *work) moved(from, onto slot) api.Reply {
	left := without(from.dir.Entries, from.name)
	entries := onto.dir.Entries
	if from.dir == onto.dir {
		entries = left
	}
	entries = with(entries, onto.name, from.to)
	if !w.mayHave(onto.dir, entries) {
		return refused(api.ErrNoSpace)
	}
	from.dir.Entries = left
	onto.dir.Entries = entries // behind the other one, as both may be one directory
	if w.isDir(from.to) {
		w.tree[from.to].Parent = w.op.To.Ino
	}
	if onto.isFilled() {
		w.loseLink(onto.to)
	}
	return api.Reply{}
}

// readdir tells a directory's names.
func (w *work) readdir() api.Reply {
	n, err := w.dir(w.op.At)
	if err != api.OK {
		return refused(err)
	}
	var names []string
	for _, e := range n.Entries {
		names = append(names, strings.Clone(e.Name))
	}
	return api.Reply{Names: names}
}

// isDir tells whether an inode is a directory.
func (w *work) isDir(ino int) bool {
	return w.tree[ino].Kind == api.Dir
}

// hasEntries tells whether an inode is a directory that isn't empty.
func (w *work) hasEntries(ino int) bool {
	return len(w.tree[ino].Entries) > 0
}

// loseLink takes a link from an inode. Without one it is None.
func (w *work) loseLink(ino int) {
	n := &w.tree[ino]
	n.Links--
	if n.Links == 0 {
		*n = api.Node{Gen: n.Gen}
	}
}
