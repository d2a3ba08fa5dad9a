package wal

import (
	"lagoon/api"
	"lagoon/codec"
)

// mostBytes is how many bytes a record has at most: as many as a log has room for behind its head.
const mostBytes = frameBlocks * pieceBytes

// encode is a record's bytes, if these updates may be one.
func encode(u []api.Update) (string, api.Errno) {
	if !mayBe(u) {
		return "", api.ErrRange
	}
	var w codec.Writer
	w.Num(len(u))
	for _, x := range u {
		w.Num(x.Block)
		w.Num(x.Ver)
		w.Text(x.Data)
	}
	record := codec.Seal(w.Bytes())
	if len(record) > mostBytes {
		return "", api.ErrRange
	}
	return string(record), api.OK
}

// decode is the record of bytes, and whether there is one. To look at it again by what encodes it leaves no record a second form, and lets none come that may not be.
func decode(record string) ([]api.Update, bool) {
	b, _ := codec.Open([]byte(record))
	r := codec.NewReader(b)
	var u []api.Update
	for n := r.Num(); len(u) < n && r.Err() == api.OK; {
		u = append(u, api.Update{Block: r.Num(), Ver: r.Num(), Data: r.Text(api.DataBytes)})
	}
	own, err := encode(u)
	return u, err == api.OK && own == record
}

// mayBe tells whether updates are some, each may be one, and their blocks rise.
func mayBe(u []api.Update) bool {
	last := api.InodeBase - 1
	for _, x := range u {
		if !within(x.Block, last+1, api.LogBase-1) || !within(x.Ver, 1, api.MaxCount) || len(x.Data) > api.DataBytes {
			return false
		}
		last = x.Block
	}
	return len(u) > 0
}
