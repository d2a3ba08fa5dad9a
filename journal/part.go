package journal

import (
	"bytes"
	"iter"

	"lagoon/api"
	"lagoon/codec"
)

// Where a part's sector has what it tells; its checksum stands behind all of it.
const (
	atNumber = 4
	atIndex  = 8
	atParts  = 9
	atSize   = 10
	atBytes  = 11
	atSum    = 60
)

// part of a record. The zero part is none: no part is of generation 0, and none is one of 0 parts.
type part struct {
	gen    int
	number int // the record's
	index  int
	parts  int // how many the record has
	bytes  []byte
}

// partsOf is how many parts a record is cut into; one without bytes has one too.
func partsOf(b []byte) int {
	return max(1, (len(b)+api.PartBytes-1)/api.PartBytes)
}

// cut is the parts of records, in order; the records are numbered from first on.
func cut(gen, first int, l ...[]byte) iter.Seq[part] {
	return func(yield func(part) bool) {
		for i, b := range l {
			n := partsOf(b)
			for k := range n {
				piece := b[k*api.PartBytes : min((k+1)*api.PartBytes, len(b))]
				if !yield(part{gen, first + i, k, n, piece}) {
					return
				}
			}
		}
	}
}

// sector is the part as it is laid.
func (p part) sector() []byte {
	b := make([]byte, atSum)
	copy(b, codec.Four(uint32(p.gen)))
	copy(b[atNumber:], codec.Four(uint32(p.number)))
	b[atIndex] = byte(p.index)
	b[atParts] = byte(p.parts)
	b[atSize] = byte(len(p.bytes))
	copy(b[atBytes:], p.bytes)
	return codec.Seal(b)
}

// standing is the part that stands in a sector of these bytes; the zero part, if none does. A sector that can't be read has no bytes.
func standing(sector []byte) part {
	b, ok := codec.Open(sector)
	if !ok {
		return part{}
	}
	size := int(b[atSize])
	if size > api.PartBytes {
		return part{}
	}
	gen, _ := codec.OfFour(b)
	number, _ := codec.OfFour(b[atNumber:])
	piece, behind := b[atBytes:atBytes+size], b[atBytes+size:]
	p := part{int(gen), int(number), int(b[atIndex]), int(b[atParts]), piece}
	if !p.may() || len(bytes.Trim(behind, "\x00")) > 0 {
		return part{}
	}
	return p
}

// may tells whether the cutting makes such a part, of some record.
func (p part) may() bool {
	if p.gen < 1 || p.gen > api.MaxGen || p.number > api.MaxGen {
		return false
	}
	if p.parts > api.MaxParts || p.index >= p.parts {
		return false
	}
	if p.index < p.parts-1 {
		return len(p.bytes) == api.PartBytes
	}
	return len(p.bytes) > 0 || p.parts == 1
}

// join is the records that these parts begin with, in order, and how many of the parts are theirs.
func join(parts []part, gen int) ([][]byte, int) {
	var l [][]byte
	used := 0
	for {
		b, n := record(parts[used:], gen, len(l))
		if n == 0 {
			return l, used
		}
		l = append(l, b)
		used += n
	}
}

// record is the one that these parts begin with, and how many of them it has: 0, if they begin with none.
func record(parts []part, gen, number int) ([]byte, int) {
	if len(parts) == 0 || parts[0].parts > len(parts) {
		return nil, 0
	}
	n := parts[0].parts
	var b []byte
	for i, p := range parts[:n] {
		if p.gen != gen || p.number != number || p.index != i || p.parts != n {
			return nil, 0
		}
		b = append(b, p.bytes...)
	}
	return b, n
}
