package cells

import (
	"bytes"

	"lagoon/api"
	"lagoon/codec"
)

// Where a value's sector has what it tells, behind the lower half of the number; its checksum stands behind all of it.
const (
	atHigher = 4
	atSize   = 8
	atText   = 9
	atSum    = atText + api.CellBytes
)

// half is how many bits of a number stand ahead of its higher ones.
const half = 32

// sector is a value as it is laid.
func sector(v api.Cell) []byte {
	b := make([]byte, atSum)
	copy(b, codec.Four(uint32(v.Seq)))
	copy(b[atHigher:], codec.Four(uint32(v.Seq>>half)))
	b[atSize] = byte(len(v.Data))
	copy(b[atText:], v.Data)
	return codec.Seal(b)
}

// standing is the value whose sector these bytes are; the zero value, if they are none's. A sector that can't be read has no bytes.
func standing(sector []byte) api.Cell {
	b, ok := codec.Open(sector)
	if !ok {
		return api.Cell{}
	}
	size := int(b[atSize])
	if size > api.CellBytes {
		return api.Cell{}
	}
	lower, _ := codec.OfFour(b)
	higher, _ := codec.OfFour(b[atHigher:])
	number := uint64(higher)<<half | uint64(lower)
	text, behind := b[atText:atText+size], b[atText+size:]
	if number < 1 || number > api.MaxCount || len(bytes.Trim(behind, "\x00")) > 0 {
		return api.Cell{}
	}
	return api.Cell{Seq: int(number), Data: string(text)}
}
