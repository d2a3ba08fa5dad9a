package tree_test

import (
	"fmt"
	"math/rand"
	"slices"
	"testing"

	"lagoon/api"
	"lagoon/tree"
)

// row is a tree that operations are done to, one behind the other, and what is known of its handles.
type row struct {
	*testing.T
	tree api.Tree
	good map[api.Handle]bool // whether each that was good once still is
}

// newRow is a row that begins with a tree.
func newRow(t *testing.T, x api.Tree) *row {
	r := &row{T: t, tree: x, good: map[api.Handle]bool{}}
	r.look()
	return r
}

// look takes the handles that are good now, and wants none of them to be one that had ceased to be.
func (r *row) look() {
	r.Helper()
	for h := range r.good {
		if x := r.tree[h.Ino]; r.good[h] && (x.Kind == kNone || x.Gen != h.Gen) {
			r.good[h] = false
		}
	}
	for i, n := range r.tree {
		if n.Kind == kNone {
			continue
		}
		h := at(r.tree, i)
		if still, was := r.good[h]; was && !still {
			r.Errorf("%v is good again, in%s", h, shown(r.tree))
		}
		r.good[h] = true
	}
}

// do does an operation, beside the plain tree, and wants what follows.
func (r *row) do(prefer int, op api.Op) api.Reply {
	r.Helper()
	was := r.tree
	got, reply := wantPlain(r.T, was, prefer, op)
	r.tree = got
	if reply.Code == ok {
		r.follows(was, op, reply)
	}
	r.look()
	return reply
}

// lookup is what OpLookup tells of a name.
func (r *row) lookup(h api.Handle, name string) api.Reply {
	_, reply := tree.Do(r.tree, 0, api.Op{Kind: api.OpLookup, At: h, Name: name})
	return reply
}

// wantEntry wants a name to be looked up.
func (r *row) wantEntry(h api.Handle, name string, want api.Reply) {
	r.Helper()
	if reply := r.lookup(h, name); !sameReply(reply, want) {
		r.Errorf("%q in %v: %+v; want %+v, in%s", name, h, reply, want, shown(r.tree))
	}
}

// follows wants what an operation that was done leaves behind it.
func (r *row) follows(was api.Tree, op api.Op, reply api.Reply) {
	r.Helper()
	gone := api.Reply{Code: errNoEnt}
	switch op.Kind {
	case api.OpCreate, api.OpMkdir:
		r.wantEntry(op.At, op.Name, reply)
		if _, stat := tree.Do(r.tree, 0, api.Op{Kind: api.OpStat, At: reply.Handle}); stat.Code != ok || stat.Kind != reply.Kind || stat.Size != 0 {
			r.Errorf("%+v made %+v: %+v", op, reply, stat)
		}
		if was[reply.Handle.Ino].Gen >= reply.Handle.Gen {
			r.Errorf("%+v made %+v, and there was the Gen %d", op, reply, was[reply.Handle.Ino].Gen)
		}
	case api.OpLink:
		r.wantEntry(op.To, op.Toname, told(op.At.Ino, op.At.Gen, kFile))
	case api.OpUnlink, api.OpRmdir:
		r.wantEntry(op.At, op.Name, gone)
	case api.OpRename:
		_, s := tree.Do(was, 0, api.Op{Kind: api.OpLookup, At: op.At, Name: op.Name})
		_, d := tree.Do(was, 0, api.Op{Kind: api.OpLookup, At: op.To, Name: op.Toname})
		r.wantEntry(op.To, op.Toname, s)
		if !sameReply(s, d) {
			r.wantEntry(op.At, op.Name, gone)
		}
	case api.OpWrite:
		_, read := tree.Do(r.tree, 0, api.Op{Kind: api.OpRead, At: op.At, Off: op.Off, Len: len(op.Data)})
		if read.Data != op.Data || read.Code != ok {
			r.Errorf("%q was written at %d, and %+v is read", op.Data, op.Off, read)
		}
	}
}

// wantBadForGood wants OpStat of each handle to tell whether it is good.
func (r *row) wantBadForGood() {
	r.Helper()
	for h, good := range r.good {
		if _, reply := tree.Do(r.tree, 0, api.Op{Kind: api.OpStat, At: h}); (reply.Code == ok) != good || !good && reply.Code != errHandle {
			r.Errorf("OpStat of %v: %d; it is good: %v, in%s", h, reply.Code, good, shown(r.tree))
		}
	}
}

// codes are those that operations of each kind answer of a tree that may be.
func codes() map[api.OpKind][]api.Errno {
	return map[api.OpKind][]api.Errno{
		api.OpLookup:  {ok, errHandle, errNotDir, errName, errNoEnt},
		api.OpCreate:  {ok, errHandle, errNotDir, errName, errExist, errNoSpace},
		api.OpMkdir:   {ok, errHandle, errNotDir, errName, errExist, errNoSpace},
		api.OpLink:    {ok, errHandle, errIsDir, errNotDir, errName, errExist, errLinks, errNoSpace},
		api.OpUnlink:  {ok, errHandle, errNotDir, errName, errNoEnt, errIsDir},
		api.OpRmdir:   {ok, errHandle, errNotDir, errName, errNoEnt, errNotEmpty},
		api.OpRename:  {ok, errHandle, errNotDir, errName, errNoEnt, errLoop, errIsDir, errNotEmpty, errNoSpace},
		api.OpRead:    {ok, errHandle, errIsDir, errRange},
		api.OpWrite:   {ok, errHandle, errIsDir, errRange, errBig, errNoSpace},
		api.OpTrunc:   {ok, errHandle, errIsDir, errRange, errBig},
		api.OpStat:    {ok, errHandle},
		api.OpReaddir: {ok, errHandle, errNotDir},
		api.OpSync:    {ok},
	}
}

// P17.2 to P17.4: long rows of operations that are likely to be done, beside the plain tree; in all of them together each kind answers each of its codes, and no other one.
func TestRows(t *testing.T) {
	met := map[string]int{}
	for seed := range 40 {
		rnd := rand.New(rand.NewSource(int64(seed)))
		r := newRow(t, oneOf(rnd, wood(), worn(), tree.New(), tree.New(), fresh(rnd), fresh(rnd), laden(wood(), 46)))
		for range 1000 {
			op := likelyOp(rnd, r.tree)
			reply := r.do(rnd.Intn(5)-2, op)
			met[fmt.Sprint(op.Kind, " ", reply.Code)]++
		}
		r.wantBadForGood()
		if t.Failed() {
			t.Fatal("seed ", seed)
		}
	}
	for kind, list := range codes() {
		for _, code := range list {
			if met[fmt.Sprint(kind, " ", code)] == 0 {
				t.Errorf("no operation of the kind %d answers %d", kind, code)
			}
			delete(met, fmt.Sprint(kind, " ", code))
		}
	}
	if len(met) > 0 {
		t.Errorf("operations answer codes that aren't theirs: %v", met)
	}
}

// P17.3: any operations at all, of few likely ones in between: what is answered is a tree that may be.
func TestRowsOfAny(t *testing.T) {
	rnd := rand.New(rand.NewSource(99))
	numbers := append(farOff(), 0, 0, 0, 1, 1, 1, 2, 3, 5, 8, 15, 16, 31, 32, 64, 65, 384, 385)
	texts := append(wrongNames(), "a", "b", "c", "d", "e", "x", "sub", "k1")
	r := newRow(t, wood())
	for range 10000 {
		op := likelyOp(rnd, r.tree)
		if rnd.Intn(2) == 0 {
			op = api.Op{
				Kind: oneOf(rnd, append(kinds(), noKinds()...)...),
				At:   api.Handle{Ino: oneOf(rnd, numbers...), Gen: oneOf(rnd, numbers...)}, To: api.Handle{Ino: oneOf(rnd, numbers...), Gen: oneOf(rnd, numbers...)},
				Name: oneOf(rnd, texts...), Toname: oneOf(rnd, texts...), Data: oneOf(rnd, texts...),
				Off: oneOf(rnd, numbers...), Len: oneOf(rnd, numbers...),
			}
		}
		r.do(oneOf(rnd, numbers...), op)
		if t.Failed() {
			t.FailNow()
		}
	}
	r.wantBadForGood()
}

// P17.4: one inode made again and again: each time with another Gen, and never again behind the last one.
func TestGensWearOut(t *testing.T) {
	x := tree.New()
	for i := 2; i < allInodes; i++ {
		x[i].Gen = maxCount
	}
	x[1].Gen = maxCount - 9
	r := newRow(t, x)
	root := at(x, 0)
	for i := range 9 {
		kind := []api.OpKind{api.OpCreate, api.OpMkdir}[i%2]
		reply := r.do(i, api.Op{Kind: kind, At: root, Name: "a"})
		if want := (api.Handle{Ino: 1, Gen: maxCount - 8 + i}); reply.Handle != want {
			t.Errorf("made %v; want %v", reply, want)
		}
		if i%2 == 0 {
			r.do(0, api.Op{Kind: api.OpWrite, At: reply.Handle, Off: 300, Data: "x"})
		}
		r.do(0, api.Op{Kind: []api.OpKind{api.OpUnlink, api.OpRmdir}[i%2], At: root, Name: "a"})
		if !sameNode(r.tree[1], none(maxCount-8+i)) {
			t.Errorf("what is gone left%s", shown(r.tree))
		}
		r.wantBadForGood()
	}
	for prefer := range 2 {
		if reply := r.do(prefer, api.Op{Kind: api.OpCreate, At: root, Name: "a"}); reply.Code != errNoSpace {
			t.Errorf("behind the last Gen: %v", reply)
		}
	}
}

// P17.2 to P17.4: rows that bytes tell, eight each operation, on a tree that the first one tells.
func FuzzRows(f *testing.F) {
	f.Add([]byte("\x01\x02\x00\x00\x00\x01\x00\x00\x00"))
	f.Add([]byte("\x00\x02\x00\x00\x00\x00\x00\x00\x00\x09\x01\x00\x00\x00\x30\x01\x00\x05\x00\x00\x00\x01\x00\x00\x00"))
	f.Add(slices.Repeat([]byte("\x02\x02\x00\x01\x03\x02\x07\xff\x10"), 20))
	f.Fuzz(func(t *testing.T, b []byte) {
		if len(b) == 0 || len(b) > 1000 {
			return
		}
		starts := []api.Tree{tree.New(), wood(), worn(), laden(wood(), 46), laden(wood(), 48)}
		r := newRow(t, starts[int(b[0])%len(starts)])
		texts := append(wrongNames(), "a", "b", "c", "d", "e", "f", "s", "x", "sub", "deep", "k1", "n1", "aaaaaa", "bbbbbb", "cccccc", "dddddd")
		for _, o := range slices.Collect(slices.Chunk(b[1:], 8)) {
			if len(o) == 8 {
				r.do(int(o[7]), api.Op{
					Kind: api.OpKind(o[0] % 15), At: at(r.tree, int(o[1])%allInodes), To: at(r.tree, int(o[2])%allInodes),
					Name: texts[int(o[3])%len(texts)], Toname: texts[int(o[4])%len(texts)],
					Off: int(o[5])*2 - 8, Len: int(o[6])%70 - 2, Data: mixed(int(o[6])%68, int(o[7])),
				})
			}
		}
		r.wantBadForGood()
	})
}
