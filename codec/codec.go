// Package codec is layer 1: numbers and texts as bytes, each in one form alone, and a checksum (shared/doc/01-codec.md).
package codec

import (
	"bytes"
	"slices"

	"lagoon/api"
)

const (
	// digit is how many bits of a number a byte of its form has; more is what is added to each byte but the last.
	digit = 7
	more  = 1 << digit
	// longest is how many bytes the form of a number has at most.
	longest = 9
	// four is how many bytes a checksum takes.
	four = 4
	// polynomial is that of CRC-32C, its bits turned round.
	polynomial = 0x82f63b78
)

// Writer lays numbers and texts down as bytes.
type Writer struct {
	sheet *sheet
	n     int // how many of the sheet's bytes are this writer's
}

// sheet has the bytes of a writer. A writer that is copied shares it with its copy, till one of them lays down more.
type sheet struct {
	bytes []byte
}

// Num: a number.
func (w *Writer) Num(n int) {
	if w == nil {
		return
	}
	for n = max(n, 0); n >= more; n >>= digit {
		w.lay(byte(n) | more)
	}
	w.lay(byte(n))
}

// Text: a text.
func (w *Writer) Text(s string) {
	if w == nil {
		return
	}
	w.Num(len(s))
	each(s, w.lay)
}

// Bytes: all that has been laid down.
func (w *Writer) Bytes() []byte {
	if w == nil || w.sheet == nil {
		return nil
	}
	return bytes.Clone(w.sheet.bytes[:w.n])
}

// lay lays one byte down. What stands on the sheet behind a writer's own bytes is a copy's, and stays: such a writer goes on with a sheet of its own.
func (w *Writer) lay(b byte) {
	if w.sheet == nil || len(w.sheet.bytes) > w.n {
		w.sheet = &sheet{bytes: w.Bytes()}
	}
	w.sheet.bytes = append(w.sheet.bytes, b)
	w.n++
}

// each hands the bytes of a text on, in order.
func each(s string, to func(byte)) {
	for i := range len(s) {
		to(s[i])
	}
}

// Reader takes them up.
type Reader struct {
	left []byte
	err  api.Errno
}

// NewReader: a reader of these bytes.
func NewReader(b []byte) *Reader {
	return &Reader{left: bytes.Clone(b)}
}

// Num: the next number.
func (r *Reader) Num() int {
	if r.Err() != api.OK {
		return 0
	}
	n, size, err := number(r.left)
	r.err = err
	r.left = r.left[size:]
	return n
}

// Text: the next text, of at most so many bytes.
func (r *Reader) Text(most int) string {
	if r.Err() != api.OK {
		return ""
	}
	s, size, err := text(r.left, max(most, 0))
	r.err = err
	r.left = r.left[size:]
	return s
}

// Left: how many bytes are left.
func (r *Reader) Left() int {
	if r == nil {
		return 0
	}
	return len(r.left)
}

// Err: the reader's error.
func (r *Reader) Err() api.Errno {
	if r == nil {
		return api.ErrNil
	}
	return r.err
}

// number is the number with whose form bytes begin, and how many bytes the form has.
func number(b []byte) (int, int, api.Errno) {
	n := 0
	for i := range longest {
		if i == len(b) {
			return 0, 0, api.ErrShort
		}
		n |= int(b[i]&^more) << (digit * i)
		if b[i] >= more {
			continue
		}
		if b[i] == 0 && i > 0 {
			return 0, 0, api.ErrForm
		}
		return n, i + 1, api.OK
	}
	return 0, 0, api.ErrForm
}

// text is the text with whose form bytes begin, and how many bytes the form has.
func text(b []byte, most int) (string, int, api.Errno) {
	n, size, err := number(b)
	if err != api.OK {
		return "", 0, err
	}
	if n > most {
		return "", 0, api.ErrForm
	}
	if n > len(b)-size {
		return "", 0, api.ErrShort
	}
	return string(b[size : size+n]), size + n, api.OK
}

// Sum: the checksum of bytes.
func Sum(b []byte) uint32 {
	register := ^uint32(0)
	for _, x := range b {
		register ^= uint32(x)
		for range 8 {
			low := register & 1
			register = register>>1 ^ polynomial*low
		}
	}
	return ^register
}

// Four: a number as four bytes.
func Four(x uint32) []byte {
	return []byte{byte(x), byte(x >> 8), byte(x >> 16), byte(x >> 24)}
}

// OfFour: the number of four bytes.
func OfFour(b []byte) (uint32, bool) {
	if len(b) < four {
		return 0, false
	}
	return uint32(b[0]) | uint32(b[1])<<8 | uint32(b[2])<<16 | uint32(b[3])<<24, true
}

// Seal: bytes, and their checksum.
func Seal(b []byte) []byte {
	return slices.Concat(b, Four(Sum(b)))
}

// Open: the bytes that were sealed.
func Open(b []byte) ([]byte, bool) {
	n := len(b) - four
	if n < 0 {
		return nil, false
	}
	sum, _ := OfFour(b[n:])
	if sum != Sum(b[:n]) {
		return nil, false
	}
	return bytes.Clone(b[:n]), true
}
