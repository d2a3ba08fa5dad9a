package tree_test

import (
	"fmt"
	"math"
	"strings"
	"testing"

	"lagoon/api"
)

// lone is a tree of one file, inode 9.
func lone(n api.Node) api.Tree {
	return api.Tree{0: dir(1, 0, "f 9"), 9: n}
}

// someFiles are files of all kinds: without bytes, with holes, up to the last byte.
func someFiles() []api.Node {
	return []api.Node{
		file(2, 1, ""),
		file(2, 1, "x"),
		file(2, 1, mixed(32, 1)),
		file(2, 1, mixed(33, 2)),
		file(2, 1, zeros(40)),
		file(2, 1, zeros(40), 0),
		file(2, 1, zeros(100)+mixed(50, 3)+zeros(3)),
		file(2, 1, mixed(128, 4)),
		file(2, 1, zeros(129), 4),
		file(2, 1, mixed(70, 5)+zeros(230), 9),
		file(2, 1, zeros(383)),
		file(2, 1, zeros(384)),
		file(2, 1, mixed(384, 6)),
		file(2, 1, zeros(384), 2, 3, 11),
	}
}

// offs are places in a file, at the bounds of pieces and past them.
func offs() []int {
	var l []int
	for n := 0; n <= maxSize+64; n += 32 {
		l = append(l, n-1, n, n+1, n+13)
	}
	return append(l, 382, 383, 385, 320, 319)
}

// read is an OpRead of the lone file.
func read(off, n int) api.Op {
	return api.Op{Kind: api.OpRead, At: api.Handle{Ino: 9, Gen: 2}, Off: off, Len: n}
}

// write is an OpWrite of the lone file.
func write(off int, data string) api.Op {
	return api.Op{Kind: api.OpWrite, At: api.Handle{Ino: 9, Gen: 2}, Off: off, Data: data}
}

// trunc is an OpTrunc of the lone file.
func trunc(off int) api.Op {
	return api.Op{Kind: api.OpTrunc, At: api.Handle{Ino: 9, Gen: 2}, Off: off}
}

// size is the reply that tells a length.
func size(n int) api.Reply {
	return api.Reply{Size: n}
}

// P17.2: OpRead, OpWrite and OpTrunc of a directory, whatever else is wrong.
func TestBytesOfDir(t *testing.T) {
	w := wood()
	for _, kind := range []api.OpKind{api.OpRead, api.OpWrite, api.OpTrunc} {
		for _, i := range []int{0, 3, 10} {
			wantCode(t, w, api.Op{Kind: kind, At: at(w, i)}, errIsDir)
			wantCode(t, w, api.Op{Kind: kind, At: at(w, i), Off: -1, Len: -1, Data: strings.Repeat("x", 65)}, errIsDir)
			wantCode(t, w, api.Op{Kind: kind, At: at(w, i), Off: 385, Len: 1, Data: "x"}, errIsDir)
		}
	}
}

// P17.2: what OpRead reads of each file: at each place, as much as may be.
func TestRead(t *testing.T) {
	for _, n := range someFiles() {
		x := lone(n)
		for _, off := range append(offs(), math.MaxInt, math.MaxInt-63, 1<<32) {
			if off < 0 {
				continue
			}
			for _, many := range []int{0, 1, 2, 31, 32, 33, 63, 64} {
				from := min(off, len(n.Data))
				data := n.Data[from:min(from+many, len(n.Data))]
				wantTold(t, x, read(off, many), api.Reply{Data: data})
			}
		}
	}
	x := lone(file(2, 1, mixed(100, 1)))
	op := read(90, 20)
	op.Name, op.Toname, op.To, op.Data = "A", "A", api.Handle{Ino: -1}, strings.Repeat("x", 100)
	wantTold(t, x, op, api.Reply{Data: mixed(100, 1)[90:]})
}

// P17.2: an Off or a Len that may not be.
func TestReadRange(t *testing.T) {
	x := lone(file(2, 1, mixed(384, 1)))
	for _, n := range append(farOff(), 65, 66, 384) {
		if n > maxIO || n < 0 {
			wantCode(t, x, read(0, n), errRange)
			wantCode(t, x, read(400, n), errRange)
			wantCode(t, x, read(-1, n), errRange)
		}
		if n < 0 {
			wantCode(t, x, read(n, 0), errRange)
			wantCode(t, x, read(n, 64), errRange)
		} else {
			wantTold(t, x, read(max(n, 384), 64), api.Reply{})
		}
	}
}

// written is a file with bytes written over it.
func written(n api.Node, off int, data string) api.Node {
	b := []byte(n.Data + zeros(max(0, off+len(data)-len(n.Data))))
	for i := range len(data) {
		b[off+i] = data[i]
		n.Chunks[(off+i)/32] = true
	}
	n.Data = string(b)
	return n
}

// P17.2: what OpWrite writes over each file, at each place, of each length.
func TestWrite(t *testing.T) {
	for _, n := range someFiles() {
		x := lone(n)
		for _, off := range offs() {
			for _, many := range []int{1, 2, 31, 32, 33, 63, 64} {
				for _, data := range []string{mixed(many, 7), zeros(many)} {
					switch {
					case off < 0:
						wantCode(t, x, write(off, data), errRange)
					case off+many > maxSize:
						wantCode(t, x, write(off, data), errBig)
					default:
						m := written(n, off, data)
						wantDone(t, x, write(off, data), size(len(m.Data)), map[int]api.Node{9: m})
					}
				}
			}
			if off >= 0 {
				wantTold(t, x, write(off, ""), size(len(n.Data)))
			}
		}
	}
	op := write(3, "abc")
	op.Name, op.Toname, op.To, op.Len = "A", "A", api.Handle{Ino: -1}, -1
	wantDone(t, lone(file(2, 1, "x")), op, size(6), map[int]api.Node{9: file(2, 1, "x\x00\x00abc")})
}

// P17.2: the codes of OpWrite: each with such as come behind it, at numbers as great as they are.
func TestWriteCodes(t *testing.T) {
	full := laden(wood(), 48)
	full[9] = api.Node{Kind: kFile, Gen: 1, Links: 1, Data: full[9].Data, Chunks: [12]bool{true, true, true, true}}
	full[10].Entries = []api.Entry{{Name: "f", Ino: 15}}
	full[15] = file(2, 1, zeros(384), 4, 5, 6, 7, 8, 9, 10)
	wantMayBe(t, "48 blocks", full)
	if plainUsed(full) != 48 {
		t.Fatalf("%d blocks", plainUsed(full))
	}
	one := api.Handle{Ino: 9, Gen: 1}
	for _, n := range append(farOff(), -1, 385, 400) {
		op := api.Op{Kind: api.OpWrite, At: one, Off: n}
		for _, data := range []string{"", "x", mixed(64, 1), mixed(65, 1), strings.Repeat("x", 1<<20)} {
			op.Data = data
			switch {
			case n < 0 || len(data) > 64:
				wantCode(t, full, op, errRange)
			case data == "":
				wantTold(t, full, op, size(384))
			default:
				if n > maxSize-len(data) {
					wantCode(t, full, op, errBig)
				}
			}
		}
	}
	for many := 1; many <= 64; many++ {
		data := strings.Repeat("x", many)
		wantCode(t, full, api.Op{Kind: api.OpWrite, At: one, Off: 385 - many, Data: data}, errBig)
		wantCode(t, full, api.Op{Kind: api.OpWrite, At: one, Off: 384 - many, Data: data}, errNoSpace)
	}
	wantCode(t, full, api.Op{Kind: api.OpWrite, At: one, Off: -1, Data: strings.Repeat("x", 65)}, errRange)
	wantCode(t, full, api.Op{Kind: api.OpWrite, At: one, Off: 384, Data: strings.Repeat("x", 65)}, errRange)
}

// lean is a tree of so many blocks, and a file, inode 15, of which pieces are there, and 384 bytes.
func lean(blocks int, there ...int) api.Tree {
	x := wood()
	x[3], x[15] = dir(7, 0, "f 15"), file(2, 1, zeros(384), there...)
	rest := x
	rest[15] = none(0)
	rest[3] = dir(7, 0, "")
	rest = laden(rest, blocks-plainUsed(x)+plainUsed(rest))
	rest[3], rest[15] = x[3], x[15]
	return rest
}

// P17.2: the room for OpWrite: just there, and a block short, for each run of pieces, where none, some and all are there.
func TestWriteRoom(t *testing.T) {
	for what, there := range map[string][]int{
		"none":           nil,
		"the first":      {0},
		"the third":      {2},
		"the direct":     {0, 1, 2, 3},
		"the fifth":      {4},
		"the last":       {11},
		"all but 3 to 5": {0, 1, 2, 6, 7, 8, 9, 10, 11},
		"the even":       {0, 2, 4, 6, 8, 10},
	} {
		for off := 0; off < 384; off += 16 {
			for _, many := range []int{1, 16, 17, 32, 33, 49, 64} {
				if off+many > 384 {
					continue
				}
				x := lean(40, there...)
				n := written(x[15], off, strings.Repeat("y", many))
				more := plainUsed(put(x, 15, n)) - plainUsed(x)
				op := api.Op{Kind: api.OpWrite, At: api.Handle{Ino: 15, Gen: 2}, Off: off, Data: strings.Repeat("y", many)}
				what := fmt.Sprint(many, " bytes at ", off, ", there: ", what)
				if just := lean(48-more, there...); plainUsed(just) == 48-more {
					wantDone(t, just, op, size(384), map[int]api.Node{15: n})
				} else {
					t.Errorf("%s: no tree of %d blocks", what, 48-more)
				}
				if more > 0 {
					wantCode(t, lean(49-more, there...), op, errNoSpace)
				}
			}
		}
	}
	far := api.Op{Kind: api.OpWrite, At: api.Handle{Ino: 15, Gen: 2}, Off: 128, Data: "x"}
	wantCode(t, lean(47), far, errNoSpace) // piece 4, and the one more
	wantDone(t, lean(46), far, size(384), map[int]api.Node{15: file(2, 1, zeros(128)+"x"+zeros(255))})
	wantDone(t, lean(47, 11), far, size(384), map[int]api.Node{15: file(2, 1, zeros(128)+"x"+zeros(255), 11)})
	wantCode(t, lean(48, 11), far, errNoSpace)
	wantDone(t, lean(48, 4), far, size(384), map[int]api.Node{15: file(2, 1, zeros(128)+"x"+zeros(255))})
}

// P17.2: OpTrunc of each file to each length, and what isn't one; what is cut off is gone, also when the file is long again.
func TestTrunc(t *testing.T) {
	for _, n := range someFiles() {
		x := lone(n)
		for off := range maxSize + 1 {
			cut := n
			cut.Data = (n.Data + zeros(384))[:off]
			for k := range cut.Chunks {
				cut.Chunks[k] = n.Chunks[k] && 32*k < off
			}
			y := wantDone(t, x, trunc(off), size(off), map[int]api.Node{9: cut})
			if off%8 == 5 {
				long := cut
				long.Data += zeros(384 - off)
				wantDone(t, y, trunc(384), size(384), map[int]api.Node{9: long})
				wantTold(t, y, read(off, 64), api.Reply{})
			}
		}
		for _, off := range append(farOff(), 385, 386, 1<<32+5) {
			switch {
			case off < 0:
				wantCode(t, x, trunc(off), errRange)
			case off > maxSize:
				wantCode(t, x, trunc(off), errBig)
			}
		}
	}
	x := laden(wood(), 48)
	wantDone(t, x, api.Op{Kind: api.OpTrunc, At: at(x, 5), Off: 384, Len: -1, Data: strings.Repeat("x", 99)}, size(384), map[int]api.Node{})
	wantDone(t, x, api.Op{Kind: api.OpTrunc, At: at(x, 9), Off: 0}, size(0), map[int]api.Node{9: file(1, 1, "")})
}

// P17.2, P17.3: what OpTrunc sets free, OpWrite may take again; what stays there needs no room.
func TestTruncThenWrite(t *testing.T) {
	x := lean(48, 0, 1, 2, 3, 4)
	h := api.Handle{Ino: 15, Gen: 2}
	wantCode(t, x, api.Op{Kind: api.OpWrite, At: h, Off: 160, Data: "x"}, errNoSpace)
	y := wantDone(t, x, api.Op{Kind: api.OpTrunc, At: h, Off: 128}, size(128), map[int]api.Node{15: file(2, 1, zeros(128), 0, 1, 2, 3)})
	wantDone(t, y, api.Op{Kind: api.OpWrite, At: h, Off: 383, Data: "x"}, size(384), map[int]api.Node{15: file(2, 1, zeros(383)+"x", 0, 1, 2, 3)})
	y = wantDone(t, x, api.Op{Kind: api.OpTrunc, At: h, Off: 129}, size(129), map[int]api.Node{15: file(2, 1, zeros(129), 0, 1, 2, 3, 4)})
	wantCode(t, y, api.Op{Kind: api.OpWrite, At: h, Off: 383, Data: "x"}, errNoSpace)
	y = wantDone(t, x, api.Op{Kind: api.OpTrunc, At: h, Off: 1}, size(1), map[int]api.Node{15: file(2, 1, "\x00", 0)})
	wantDone(t, y, api.Op{Kind: api.OpWrite, At: h, Off: 63, Data: "xy"}, size(65), map[int]api.Node{15: file(2, 1, zeros(63)+"xy", 0)})
}
