package wal_test

import (
	"encoding/binary"
	"slices"
	"strings"

	"lagoon/api"
	"lagoon/chain"
)

// plainWidth is how many frames updates have, as the Words tell it; 0, if they may be no record.
func plainWidth(u []api.Update) int {
	if len(u) < 1 || len(u) > 79 {
		return 0
	}
	for i, x := range u {
		if x.Block < 1 || x.Block > 79 || x.Ver < 1 || x.Ver > maxCount || len(x.Data) > dataBytes {
			return 0
		}
		if i > 0 && u[i-1].Block >= x.Block {
			return 0
		}
	}
	if len(bytesOf(u)) > longest {
		return 0
	}
	return len(framesOf(1, u))
}

// plainNumber is the number with whose form a text begins, and what is behind that; -1, if it begins with none.
func plainNumber(s string) (int, string) {
	n, size := binary.Uvarint([]byte(s))
	if size <= 0 || n > 1<<63-1 || form(int(n)) != s[:size] {
		return -1, s
	}
	return int(n), s[size:]
}

// plainRecord is the record whose bytes are just these; none, if there is none.
func plainRecord(s string) []api.Update {
	if len(s) < 4 || sealed(s[:len(s)-4]) != s {
		return nil
	}
	n, left := plainNumber(s[:len(s)-4])
	var u []api.Update
	for left != "" {
		var b, ver, size int
		b, left = plainNumber(left)
		ver, left = plainNumber(left)
		size, left = plainNumber(left)
		if min(b, ver, size) < 0 || size > len(left) {
			return nil
		}
		u = append(u, api.Update{Block: b, Ver: ver, Data: left[:size]})
		left = left[size:]
	}
	if n != len(u) || plainWidth(u) == 0 {
		return nil
	}
	return u
}

// plainFirst is the record with a number that blocks begin with: any number of blocks is tried.
func plainFirst(blocks []string, number int) []api.Update {
	for n := 1; n <= len(blocks); n++ {
		record := ""
		for i, block := range blocks[:n] {
			piece, is := strings.CutPrefix(block, form(number)+form(i)+form(n))
			if !is {
				record = ""
				break
			}
			record += piece
		}
		u := plainRecord(record)
		if u != nil && slices.Equal(framesOf(number, u), blocks[:n]) {
			return u
		}
	}
	return nil
}

// plainStanding is the records that stand in blocks, from the first block on.
func plainStanding(blocks []string, start int) [][]api.Update {
	var l [][]api.Update
	for {
		u := plainFirst(blocks, start+len(l))
		if u == nil {
			return l
		}
		l = append(l, u)
		blocks = blocks[widthOf(u):]
	}
}

// plain is a log as the chapter tells it, by whole lists of updates.
type plain struct {
	c                  *chain.Chain
	owner, writer, gen int
	start              int
	records            [][]api.Update
	hangs              []api.Update
}

// plainOpen as P15.1 tells it.
func plainOpen(c *chain.Chain, x api.Config, owner, writer, gen int) (*plain, api.Errno) {
	if c == nil {
		return nil, errNil
	}
	if !slices.Contains([]int{0, 1, 2}, owner) || !slices.Contains([]int{0, 1, 2}, writer) || gen < 1 || gen > maxCount {
		return nil, errRange
	}
	p := &plain{c: c, owner: owner, writer: writer, gen: gen, start: 1}
	var blocks []string
	for b := headOf(owner); b < headOf(owner+1); b++ {
		v, err := c.Read(x, b)
		if err != ok {
			return nil, err
		}
		blocks = append(blocks, v.Data)
	}
	if blocks[0] != "" {
		n, left := plainNumber(blocks[0])
		if n < 1 || n > maxCount || left != "" {
			return nil, errForm
		}
		p.start = n
	}
	p.records = plainStanding(blocks[1:], p.start)
	return p, ok
}

// append as P15.2 tells it.
func (p *plain) append(x api.Config, u []api.Update) api.Errno {
	switch {
	case plainWidth(u) == 0:
		return errRange
	case p.hangs != nil && !slices.Equal(p.hangs, u):
		return errBusy
	case p.room() < plainWidth(u):
		return errSpace
	case p.next() >= maxCount:
		return errWorn
	}
	at := headOf(p.owner) + logBlocks - p.room()
	for i, frame := range framesOf(p.next(), u) {
		if err := p.c.Write(x, at+i, frame, p.writer, p.gen); err != ok {
			p.hangs = slices.Clone(u)
			return err
		}
	}
	p.hangs = nil
	p.records = append(p.records, slices.Clone(u))
	return ok
}

// clear as P15.3 tells it.
func (p *plain) clear(x api.Config) api.Errno {
	if p.next()+1 > maxCount {
		return errWorn
	}
	if err := p.c.Write(x, headOf(p.owner), form(p.next()+1), p.writer, p.gen); err != ok {
		return err
	}
	p.start, p.records, p.hangs = p.next()+1, nil, nil
	return ok
}

func (p *plain) room() int {
	return room - widthOf(p.records...)
}

func (p *plain) next() int {
	return p.start + len(p.records)
}
