package tree_test

import (
	"fmt"
	"math/rand"
	"slices"
	"sync"
	"testing"

	"lagoon/api"
	"lagoon/tree"
)

// roomy is a tree whose lists have spare room behind their end, in which something stands.
func roomy(x api.Tree) api.Tree {
	spare := []api.Entry{{Name: "zzzzzz", Ino: 1}, {Name: "SPARE", Ino: 99}, {}}
	for i := range x {
		n := len(x[i].Entries)
		x[i].Entries = slices.Concat(x[i].Entries, spare)[: n : n+len(spare)]
	}
	return x
}

// over writes over all lists of a tree, to the end of their spare room.
func over(x *api.Tree) {
	for i := range x {
		overList(x[i].Entries)
	}
}

func overList(l []api.Entry) {
	l = l[:cap(l)]
	for k := range l {
		l[k] = api.Entry{Name: "over", Ino: 77}
	}
}

// overNames writes over the names of a reply, to the end of their spare room.
func overNames(l []string) {
	l = l[:cap(l)]
	for k := range l {
		l[k] = "over"
	}
}

// full is all of a tree, what stands in the spare room of its lists too.
func full(x api.Tree) string {
	s := ""
	for i := range x {
		l := x[i].Entries
		s += fmt.Sprintf("%d %q %+v %+v\n", len(l), x[i].Data, l[:cap(l)], x[i])
	}
	return s
}

// doings are operations on trees: such as are done, such as answer a code, such as are handed what may not be.
func doings() []step {
	w := wood()
	h := func(i int) api.Handle { return at(w, i) }
	var l []step
	for _, op := range []api.Op{
		{Kind: api.OpLookup, At: h(0), Name: "a"},
		{Kind: api.OpCreate, At: h(0), Name: "new"},
		{Kind: api.OpMkdir, At: h(3), Name: "new"},
		{Kind: api.OpMkdir, At: h(6), Name: "n"},
		{Kind: api.OpLink, At: h(1), To: h(3), Toname: "new"},
		{Kind: api.OpLink, At: h(1), To: h(0), Toname: "0"},
		{Kind: api.OpUnlink, At: h(0), Name: "a"},
		{Kind: api.OpUnlink, At: h(4), Name: "k8"},
		{Kind: api.OpRmdir, At: h(0), Name: "e"},
		{Kind: api.OpRmdir, At: h(8), Name: "deep"},
		renamed(h(0), "a", h(0), "z"),
		renamed(h(0), "s", h(0), "0"),
		renamed(h(0), "a", h(3), "a"),
		renamed(h(0), "e", h(8), "deep"),
		renamed(h(0), "d", h(3), "d"),
		renamed(h(0), "a", h(0), "b"),
		renamed(h(0), "a", h(0), "a"),
		{Kind: api.OpRead, At: h(1), Off: 90, Len: 40},
		{Kind: api.OpWrite, At: h(1), Off: 90, Data: mixed(64, 9)},
		{Kind: api.OpWrite, At: h(1), Off: 90},
		{Kind: api.OpTrunc, At: h(1), Off: 5},
		{Kind: api.OpTrunc, At: h(1), Off: 100},
		{Kind: api.OpStat, At: h(0)},
		{Kind: api.OpReaddir, At: h(0)},
		{Kind: api.OpReaddir, At: h(3)},
		{Kind: api.OpReaddir, At: h(6)},
		{Kind: api.OpSync},
		{Kind: 99},
	} {
		for what, x := range map[string]api.Tree{"wood": w, "full": laden(worn(), 48), "no tree": put(w, 3, dir(7, 1, "")), "no names": put(w, 3, dir(7, 0, "A 1 A 99"))} {
			l = append(l, step{what: fmt.Sprintf("%s: %+v", what, op), tree: x, op: op})
		}
	}
	return l
}

// R5: trees that are handed in stay as they are, the room behind the ends of their lists too.
func TestTreeStays(t *testing.T) {
	for _, s := range doings() {
		x := roomy(s.tree)
		was := full(x)
		tree.Valid(x)
		tree.Used(x)
		for prefer := range 2 {
			tree.Do(x, prefer, s.op)
		}
		if is := full(x); is != was {
			t.Errorf("%s: what was handed in is\n%s; it was\n%s", s.what, is, was)
		}
	}
}

// R5, R6: what is answered shares no list with what was handed in: each is written over, and the other one is what it was.
func TestAnswerApartFromTree(t *testing.T) {
	for _, s := range doings() {
		want, wanted := plainDo(s.tree, 0, s.op)
		x := roomy(s.tree)
		got, reply := tree.Do(x, 0, s.op)
		over(&x)
		if !sameTree(got, want) || !sameReply(reply, wanted) {
			t.Errorf("%s: the tree handed in is written over, and the answer is %+v and%s", s.what, reply, shown(got))
		}
		x = roomy(s.tree)
		was := full(x)
		got, reply = tree.Do(x, 0, s.op)
		over(&got)
		overNames(reply.Names)
		if full(x) != was {
			t.Errorf("%s: the answer is written over, and the tree handed in with it", s.what)
		}
	}
}

// R6: two answers to one call, and the two of one answer, share nothing.
func TestAnswersApart(t *testing.T) {
	for _, s := range doings() {
		want, wanted := plainDo(s.tree, 0, s.op)
		got, reply := tree.Do(s.tree, 0, s.op)
		other, told := tree.Do(s.tree, 0, s.op)
		over(&got)
		overNames(reply.Names)
		if !sameTree(other, want) || !sameReply(told, wanted) {
			t.Errorf("%s: an answer is written over, and the other one is %+v and%s", s.what, told, shown(other))
		}
		overNames(told.Names)
		if !sameTree(other, want) {
			t.Errorf("%s: the reply is written over, and the tree is%s", s.what, shown(other))
		}
	}
	x, y := tree.New(), tree.New()
	x[0].Entries = append(x[0].Entries, api.Entry{Name: "a"})
	over(&x)
	if !sameTree(y, api.Tree{0: dir(1, 0, "")}) {
		t.Errorf("New:%s", shown(y))
	}
}

// R6: no two inodes of an answer share a list: each is written over in turn, to the end of its spare room, and all others are what they were.
func TestInodesApart(t *testing.T) {
	for _, s := range doings() {
		want, _ := plainDo(s.tree, 0, s.op)
		got, reply := tree.Do(roomy(s.tree), 0, s.op)
		for i := range got {
			overList(got[i].Entries)
			for k := i + 1; k < allInodes; k++ {
				if !sameNode(got[k], want[k]) {
					t.Errorf("%s: inode %d is written over, and inode %d with it", s.what, i, k)
				}
			}
		}
		if _, wanted := plainDo(s.tree, 0, s.op); !sameReply(reply, wanted) {
			t.Errorf("%s: the tree is written over, and the reply with it", s.what)
		}
	}
}

// R5, R6: a row in which each tree is written over, as soon as the next one is there.
func TestRowApart(t *testing.T) {
	rnd := rand.New(rand.NewSource(5))
	x := roomy(wood())
	for range 2000 {
		op, prefer := likelyOp(rnd, x), rnd.Intn(2)
		want, wanted := plainDo(x, prefer, op)
		want = copyOf(want)
		next, reply := tree.Do(x, prefer, op)
		over(&x)
		if !sameTree(next, want) || !sameReply(reply, wanted) {
			t.Fatalf("Do(%+v): %+v and%s\nwanted %+v and%s", op, reply, shown(next), wanted, shown(want))
		}
		overNames(reply.Names)
		x = next
	}
}

// R7: what is answered hangs on the arguments alone: in any order, behind errors, at many places at once; nil and the empty list are one.
func TestSameAnswers(t *testing.T) {
	steps := doings()
	var group sync.WaitGroup
	for seed := range 6 {
		group.Go(func() {
			rnd := rand.New(rand.NewSource(int64(seed)))
			for range 300 {
				s := steps[rnd.Intn(len(steps))]
				want, wanted := plainDo(s.tree, seed, s.op)
				if got, reply := tree.Do(s.tree, seed, s.op); !sameTree(got, want) || !sameReply(reply, wanted) {
					t.Errorf("%s: %+v and%s", s.what, reply, shown(got))
				}
				if tree.Valid(s.tree) != plainValid(s.tree) || !tree.Valid(tree.New()) {
					t.Errorf("%s: Valid: %v", s.what, tree.Valid(s.tree))
				}
			}
		})
	}
	group.Wait()
	for _, s := range steps {
		x := copyOf(s.tree)
		for i := range x {
			if x[i].Entries == nil {
				x[i].Entries = []api.Entry{}
			}
		}
		wantPlain(t, x, 0, s.op)
	}
}
