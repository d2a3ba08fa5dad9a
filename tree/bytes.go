package tree

import (
	"strings"

	"lagoon/api"
)

// read tells some of a file's bytes.
func (w *work) read() api.Reply {
	n, err := w.file(w.op.At)
	if err != api.OK {
		return refused(err)
	}
	if w.op.Off < 0 || !within(w.op.Len, 0, api.MaxIO) {
		return refused(api.ErrRange)
	}
	from := min(w.op.Off, len(n.Data))
	to := min(from+w.op.Len, len(n.Data))
	return api.Reply{Data: strings.Clone(n.Data[from:to])}
}

// write puts bytes into a file. The pieces that they touch are there then.
func (w *work) write() api.Reply {
	n, err := w.file(w.op.At)
	if err != api.OK {
		return refused(err)
	}
	off, data := w.op.Off, w.op.Data
	if off < 0 || len(data) > api.MaxIO {
		return refused(api.ErrRange)
	}
	if data == "" {
		return sizeOf(n)
	}
	if off > api.MaxSize-len(data) {
		return refused(api.ErrBig)
	}
	there := touched(n.Chunks, off, off+len(data))
	if !w.hasRoom(blocks(there) - blocks(n.Chunks)) {
		return refused(api.ErrNoSpace)
	}
	b := sized(n.Data, max(len(n.Data), off+len(data)))
	copy(b[off:], data)
	n.Data, n.Chunks = string(b), there
	return sizeOf(n)
}

// trunc cuts a file's bytes off, or lays zeros behind them. Pieces behind its end are there no more.
func (w *work) trunc() api.Reply {
	n, err := w.file(w.op.At)
	if err != api.OK {
		return refused(err)
	}
	size := w.op.Off
	if size < 0 {
		return refused(api.ErrRange)
	}
	if size > api.MaxSize {
		return refused(api.ErrBig)
	}
	n.Data = string(sized(n.Data, size))
	for k := range n.Chunks {
		if k*api.ChunkBytes >= size {
			n.Chunks[k] = false
		}
	}
	return sizeOf(n)
}

// stat tells what an inode is, how many links it has, and how many bytes.
func (w *work) stat() api.Reply {
	n, err := w.node(w.op.At)
	if err != api.OK {
		return refused(err)
	}
	return api.Reply{Kind: n.Kind, Links: n.Links, Size: len(n.Data) + dirBytes(n.Entries)}
}

// sync does nothing: in a tree of data alone, all is in its place.
func (w *work) sync() api.Reply {
	return api.Reply{}
}

// sizeOf is the reply that tells a file's length.
func sizeOf(n *api.Node) api.Reply {
	return api.Reply{Size: len(n.Data)}
}

// touched is the pieces of a file with those that bytes from one place up to another stand in.
func touched(there chunks, from, to int) chunks {
	for k := range there {
		if from < (k+1)*api.ChunkBytes && to > k*api.ChunkBytes {
			there[k] = true
		}
	}
	return there
}

// sized is so many bytes of a file: cut off, or with zeros behind.
func sized(data string, size int) []byte {
	b := make([]byte, size)
	copy(b, data)
	return b
}
