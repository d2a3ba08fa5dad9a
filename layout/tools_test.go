package layout_test

import (
	"encoding/binary"
	"fmt"
	"math"
	"math/rand"
	"reflect"
	"strings"
	"testing"

	"lagoon/api"
	"lagoon/layout"
)

// The numbers, as the document tells them.
const (
	maxCount  = 1 << 40
	dataBytes = 38
	firstData = 32
	lastData  = 79
	maxSize   = 384
	mostDir   = 128

	ok       api.Errno = 0
	errRange api.Errno = 2
	errForm  api.Errno = 11

	kNone api.Kind = 0
	kFile api.Kind = 1
	kDir  api.Kind = 2
)

// farOff is numbers near the ends of int, and such as come to small ones, if bits of them get lost.
func farOff() []int {
	return []int{math.MinInt, math.MinInt + 1, math.MinInt + 32, -1 << 40, -1 << 32, -1<<32 + 40, -300, -64, 1<<8 + 1, 1<<8 + 40, 1<<16 + 40, 1<<32 + 1, 1<<32 + 40, 1<<41 + 1, 1<<56 + 33, math.MaxInt - 40, math.MaxInt - 1, math.MaxInt}
}

// within tells whether a number is from one to another.
func within(n, from, to int) bool {
	return from <= n && n <= to
}

// isData tells whether a number is a data block's.
func isData(n int) bool {
	return within(n, firstData, lastData)
}

// isPointer tells whether a number is a data block's, or 0.
func isPointer(n int) bool {
	return n == 0 || isData(n)
}

// pointers are numbers at the bounds of what a pointer may be, and past them.
func pointers() []int {
	return append(farOff(), -80, -32, -1, 0, 1, 15, 16, 17, 18, 30, 31, 32, 33, 55, 56, 78, 79, 80, 81, 95, 96, 127, 128)
}

// form is the form of a number, in as few bytes as can be.
func form(n int) string {
	return string(binary.AppendUvarint(nil, uint64(n)))
}

// formsOf are those of numbers, one behind the other.
func formsOf(numbers ...int) string {
	var all strings.Builder
	for _, n := range numbers {
		all.WriteString(form(n))
	}
	return all.String()
}

// longer is the form of a number with a byte more than it takes.
func longer(n int) string {
	b := []byte(form(n))
	b[len(b)-1] |= 0x80
	return string(b) + "\x00"
}

// mixed is so many bytes of all kinds.
func mixed(n, seed int) string {
	b := make([]byte, n)
	for i := range b {
		b[i] = byte(i*i*7 + i*31 + seed*113)
	}
	return string(b)
}

// oneOf is one of some things.
func oneOf[T any](rnd *rand.Rand, things ...T) T {
	return things[rnd.Intn(len(things))]
}

// thing is one of the kinds of things that have bytes: the functions that lay it down and take it up, and plain ones that say what these should answer.
type thing[T any] struct {
	what   string
	encode func(T) (string, api.Errno)
	decode func(string) (T, api.Errno)
	bytes  func(T) (string, bool) // its bytes, and whether it may be
	of     func(string) (T, bool) // the thing of bytes, and whether there is one
}

func blocks() thing[api.Block] {
	return thing[api.Block]{"Block", layout.EncodeBlock, layout.DecodeBlock, plainBlockBytes, plainBlock}
}

func inodes() thing[api.Inode] {
	return thing[api.Inode]{"Inode", layout.EncodeInode, layout.DecodeInode, plainInodeBytes, plainInode}
}

func pointerRows() thing[[8]int] {
	return thing[[8]int]{"Pointers", layout.EncodePointers, layout.DecodePointers, plainPointersBytes, plainPointers}
}

func directories() thing[[]api.Entry] {
	return thing[[]api.Entry]{"Entries", layout.EncodeEntries, layout.DecodeEntries, plainEntriesBytes, plainEntries}
}

func segments() thing[api.Segment] {
	encode := func(x api.Segment) (string, api.Errno) { return layout.EncodeSegment(x), ok }
	return thing[api.Segment]{"Segment", encode, layout.DecodeSegment, plainSegmentBytes, plainSegment}
}

// equal tells whether two things are one, nil and the empty list too.
func equal(x, y any) bool {
	return reflect.DeepEqual(x, y) || reflect.ValueOf(x).Kind() == reflect.Slice && reflect.ValueOf(x).Len() == 0 && reflect.ValueOf(y).Len() == 0
}

// wantBytes wants a thing to have bytes, and these to be that thing's.
func (k thing[T]) wantBytes(t *testing.T, x T, want string) {
	t.Helper()
	if s, err := k.encode(x); s != want || err != ok {
		t.Errorf("Encode%s(%#v): %x, %d; want %x", k.what, x, s, err, want)
	}
	if s, may := k.bytes(x); s != want || !may {
		t.Errorf("Encode%s(%#v): the plain one has %x, %v; want %x", k.what, x, s, may, want)
	}
	k.wantThing(t, want, x)
}

// wantRange wants a thing to be refused, beside no bytes (R3).
func (k thing[T]) wantRange(t *testing.T, x T) {
	t.Helper()
	if s, err := k.encode(x); s != "" || err != errRange {
		t.Errorf("Encode%s(%#v): %x, %d; want no bytes, ErrRange", k.what, x, s, err)
	}
	if s, may := k.bytes(x); s != "" || may {
		t.Errorf("Encode%s(%#v): the plain one has %x, %v", k.what, x, s, may)
	}
}

// wantEither wants a thing to have the bytes that the plain one says, or to be refused; and whether it may be, the caller says.
func (k thing[T]) wantEither(t *testing.T, x T, may bool) {
	t.Helper()
	if !may {
		k.wantRange(t, x)
		return
	}
	want, _ := k.bytes(x)
	k.wantBytes(t, x, want)
}

// wantThing wants bytes to be a thing's.
func (k thing[T]) wantThing(t *testing.T, s string, want T) {
	t.Helper()
	if x, err := k.decode(s); !equal(x, want) || err != ok {
		t.Errorf("Decode%s(%x): %#v, %d; want %#v", k.what, s, x, err, want)
	}
	if x, is := k.of(s); !equal(x, want) || !is {
		t.Errorf("Decode%s(%x): the plain one has %#v, %v; want %#v", k.what, s, x, is, want)
	}
}

// wantForm wants bytes to be refused, beside the zero thing (R3).
func (k thing[T]) wantForm(t *testing.T, what, s string) {
	t.Helper()
	var none T
	if x, err := k.decode(s); !equal(x, none) || err != errForm {
		t.Errorf("Decode%s(%x), %s: %#v, %d; want nothing, ErrForm", k.what, s, what, x, err)
	}
	if x, is := k.of(s); is {
		t.Errorf("Decode%s(%x), %s: the plain one has %#v", k.what, s, what, x)
	}
}

// wantPlain wants of any bytes what the plain one says, and the bytes to be the only ones of what they say. It tells whether they say something.
func (k thing[T]) wantPlain(t *testing.T, s string) bool {
	t.Helper()
	want, is := k.of(s)
	if !is {
		k.wantForm(t, "of nothing", s)
		return false
	}
	k.wantThing(t, s, want)
	if again, err := k.encode(want); again != s || err != ok {
		t.Errorf("Encode%s(%#v): %x, %d; it was decoded from %x", k.what, want, again, err, s)
	}
	return true
}

// wantSpoilt wants of all bytes that become of good ones by a fault what the plain one says: cut, with more behind, a byte turned into any other one, left out, doubled, or taken for its neighbour.
func (k thing[T]) wantSpoilt(t *testing.T, s string) {
	t.Helper()
	for i := range s {
		k.wantPlain(t, s[:i])
		k.wantPlain(t, s[i:])
		k.wantPlain(t, s[:i]+s[i+1:])
		k.wantPlain(t, s[:i+1]+s[i:])
		k.wantPlain(t, s[:i]+longer(int(s[i]))+s[i+1:])
		for x := range 256 {
			b := []byte(s)
			b[i] = byte(x)
			k.wantPlain(t, string(b))
		}
		if i > 0 {
			b := []byte(s)
			b[i-1], b[i] = b[i], b[i-1]
			k.wantPlain(t, string(b))
		}
	}
	for x := range 256 {
		k.wantPlain(t, s+string([]byte{byte(x)}))
		k.wantPlain(t, string([]byte{byte(x)})+s)
	}
	k.wantPlain(t, s+s)
}

// wantNumbers wants the bytes of something that is laid as numbers alone to be refused, wherever they are cut, with one more behind, and with each of its numbers in a longer form.
func (k thing[T]) wantNumbers(t *testing.T, numbers ...int) {
	t.Helper()
	s := formsOf(numbers...)
	for i := range s {
		k.wantForm(t, "cut", s[:i])
	}
	for _, more := range []string{"\x00", "\x01", "\x80", "\xff", s} {
		k.wantForm(t, "with more behind", s+more)
	}
	for i, n := range numbers {
		k.wantForm(t, fmt.Sprint("number ", i, " longer"), formsOf(numbers[:i]...)+longer(n)+formsOf(numbers[i+1:]...))
		k.wantForm(t, fmt.Sprint("number ", i, " without an end"), formsOf(numbers[:i]...)+strings.Repeat("\x80", 9)+formsOf(numbers[i+1:]...))
	}
}
