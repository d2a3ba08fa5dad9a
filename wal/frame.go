package wal

import (
	"iter"
	"slices"
	"strings"

	"lagoon/api"
	"lagoon/codec"
)

// pieceBytes is how many of a record's bytes stand in one frame; the last frame has what is left.
const pieceBytes = 36

// framesOf is how many frames a record has.
func framesOf(record string) int {
	return (len(record) + pieceBytes - 1) / pieceBytes
}

// frames is a record's frames, in order.
func frames(number int, record string) iter.Seq[string] {
	return func(yield func(string) bool) {
		count := framesOf(record)
		for i := range count {
			piece := record[i*pieceBytes : min((i+1)*pieceBytes, len(record))]
			if !yield(forms(number, i, count) + piece) {
				return
			}
		}
	}
}

// standing is the records that stand in blocks, from the first block on, the first one with the number start; and how many of the blocks they take.
func standing(blocks []string, start int) ([][]api.Update, int) {
	var l [][]api.Update
	used := 0
	for {
		u, n := first(blocks[used:], start+len(l))
		if n == 0 {
			return l, used
		}
		l = append(l, u)
		used += n
	}
}

// first is the record with this number that blocks begin with, and how many of them it takes: 0, if they begin with none. It is there only where just its own frames stand.
func first(blocks []string, number int) ([]api.Update, int) {
	record := joined(blocks)
	u, ok := decode(record)
	n := framesOf(record)
	if !ok || n > len(blocks) || !slices.Equal(slices.Collect(frames(number, record)), blocks[:n]) {
		return nil, 0
	}
	return u, n
}

// joined is the pieces of as many blocks as the first one tells that its record has frames; none, if there aren't so many.
func joined(blocks []string) string {
	if len(blocks) == 0 {
		return ""
	}
	count, _ := pieceOf(blocks[0])
	if !within(count, 1, len(blocks)) {
		return ""
	}
	var pieces strings.Builder
	for _, block := range blocks[:count] {
		_, s := pieceOf(block)
		pieces.WriteString(s)
	}
	return pieces.String()
}

// pieceOf is how many frames a block says that its record has, and what stands behind its forms.
func pieceOf(block string) (int, string) {
	r := takenUp(block)
	r.Num()
	r.Num()
	count := r.Num()
	return count, block[len(block)-r.Left():]
}

// takenUp is a reader of a block's bytes.
func takenUp(block string) *codec.Reader {
	return codec.NewReader([]byte(block))
}

// forms is the forms of numbers, one behind the other.
func forms(numbers ...int) string {
	var w codec.Writer
	for _, n := range numbers {
		w.Num(n)
	}
	return string(w.Bytes())
}
