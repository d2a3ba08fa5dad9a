package tree_test

import (
	"maps"
	"slices"
	"strings"

	"lagoon/api"
)

// A plain tree, told in another way than the program's: what stands in a directory is a map by names, a file is a map of its pieces. Links and parents aren't kept: they are counted where a tree is made of it. What no entry leads to is gone.
type plain struct {
	gens    [allInodes]int
	kinds   [allInodes]api.Kind
	names   [allInodes]map[string]int
	lengths [allInodes]int
	bytes   [allInodes]map[int][32]byte
}

// plainOf is the plain one of any tree, as far as it can tell it.
func plainOf(t api.Tree) plain {
	var p plain
	for i, n := range t {
		p.gens[i], p.kinds[i] = n.Gen, n.Kind
		for _, e := range n.Entries {
			p.enter(i, e.Name, e.Ino)
		}
		p.lengths[i] = len(n.Data)
		for k, there := range n.Chunks {
			if there {
				var piece [32]byte
				copy(piece[:], n.Data[min(32*k, len(n.Data)):])
				p.lay(i, k, piece)
			}
		}
	}
	return p
}

// enter puts an entry into a directory.
func (p *plain) enter(i int, name string, ino int) {
	if p.names[i] == nil {
		p.names[i] = map[string]int{}
	}
	p.names[i][name] = ino
}

// lay puts a piece into a file.
func (p *plain) lay(i, k int, piece [32]byte) {
	if p.bytes[i] == nil {
		p.bytes[i] = map[int][32]byte{}
	}
	p.bytes[i][k] = piece
}

// tree is the tree of a plain one that may be.
func (p plain) tree() api.Tree {
	var t api.Tree
	for i := range t {
		t[i] = api.Node{Gen: p.gens[i], Kind: p.kinds[i]}
	}
	for i, names := range p.names {
		for _, name := range slices.Sorted(maps.Keys(names)) {
			ino := names[name]
			t[i].Entries = append(t[i].Entries, api.Entry{Name: name, Ino: ino})
			t[ino].Links++
			if p.kinds[ino] == kDir {
				t[ino].Parent = i
			}
		}
	}
	t[0].Links = 1
	for i := range t {
		var data [maxSize]byte
		for k, piece := range p.bytes[i] {
			copy(data[32*k:], piece[:])
			t[i].Chunks[k] = true
		}
		t[i].Data = string(data[:p.lengths[i]])
	}
	return t
}

// isName tells whether a text is a name.
func isName(s string) bool {
	return within(len(s), 1, 6) && strings.Trim(s, "abcdefghijklmnopqrstuvwxyz0123456789.") == ""
}

// mayBe tells whether a plain one may be.
func (p plain) mayBe() bool {
	met := [allInodes]int{1}
	for i, names := range p.names {
		if !within(p.gens[i], 0, maxCount) || !within(int(p.kinds[i]), 0, 2) {
			return false
		}
		if len(names) > 8 || p.lengths[i] > maxSize {
			return false
		}
		if len(names) > 0 && p.kinds[i] != kDir || len(p.bytes[i])+p.lengths[i] > 0 && p.kinds[i] != kFile {
			return false
		}
		for k := range p.bytes[i] {
			if 32*k >= p.lengths[i] {
				return false
			}
		}
	}
	if p.kinds[0] != kDir || p.gens[0] == 0 || !p.walk(0, &met) {
		return false
	}
	for i, times := range met {
		if most := []int{0, 9, 1}[p.kinds[i]]; times > most || times == 0 && most > 0 {
			return false
		}
	}
	return p.used() <= mostBlocks
}

// walk meets all that stands below a directory, and tells whether it can: each directory is met once, and each entry may be.
func (p plain) walk(i int, met *[allInodes]int) bool {
	for name, ino := range p.names[i] {
		if !isName(name) || ino < 1 || ino >= allInodes {
			return false
		}
		met[ino]++
		if p.kinds[ino] == kDir && (met[ino] > 1 || !p.walk(ino, met)) {
			return false
		}
	}
	return true
}

// plainValid tells whether a tree may be: the plain one of it may be, and it is the tree of that one.
func plainValid(t api.Tree) bool {
	p := plainOf(t)
	return p.mayBe() && sameTree(p.tree(), t)
}

// dirBytes is how many bytes a directory has.
func dirBytes(names map[string]int) int {
	all := 0
	for name := range names {
		all += 1 + len(name) + 1
	}
	return all
}

// dirPieces is how many pieces a directory has.
func dirPieces(names map[string]int) int {
	n := 0
	for left := dirBytes(names); left > 0; left -= 32 {
		n++
	}
	return n
}

// hasFar tells whether one of the pieces 4 to 11 is there.
func hasFar(pieces map[int][32]byte) bool {
	for k := range pieces {
		if k >= 4 {
			return true
		}
	}
	return false
}

// used is how many data blocks a plain one takes.
func (p plain) used() int {
	n := 0
	for i := range p.kinds {
		n += dirPieces(p.names[i]) + len(p.bytes[i])
		if hasFar(p.bytes[i]) {
			n++
		}
	}
	return n
}

// plainUsed is how many data blocks a tree that may be takes.
func plainUsed(t api.Tree) int {
	return plainOf(t).used()
}

// gone is the plain one behind taking away what no entry leads to.
func (p *plain) gone() {
	var met [allInodes]int
	met[0] = 1
	p.walk(0, &met)
	for i, times := range met {
		if times == 0 {
			p.kinds[i], p.lengths[i] = kNone, 0
			clear(p.names[i])
			clear(p.bytes[i])
		}
	}
}

// plainDo is an operation, done to the plain one of a tree.
func plainDo(t api.Tree, prefer int, op api.Op) (api.Tree, api.Reply) {
	if !plainValid(t) {
		return copyOf(t), api.Reply{Code: errCorrupt}
	}
	p := plainOf(t)
	reply := p.do(prefer, op)
	if reply.Code != ok {
		return copyOf(t), api.Reply{Code: reply.Code}
	}
	p.gone()
	return p.tree(), reply
}

func (p *plain) do(prefer int, op api.Op) api.Reply {
	switch op.Kind {
	case api.OpLookup, api.OpUnlink, api.OpRmdir:
		return p.doEntry(op)
	case api.OpCreate:
		return p.doMake(prefer, op, kFile)
	case api.OpMkdir:
		return p.doMake(prefer, op, kDir)
	case api.OpLink:
		return p.doLink(op)
	case api.OpRename:
		return p.doRename(op)
	case api.OpRead:
		return p.doRead(op)
	case api.OpWrite:
		return p.doWrite(op)
	case api.OpTrunc:
		return p.doTrunc(op)
	case api.OpStat:
		return p.doStat(op)
	case api.OpReaddir:
		return p.doReaddir(op)
	case api.OpSync:
		return api.Reply{}
	}
	return api.Reply{Code: errKind}
}

// is tells whether a handle leads to one of some kinds.
func (p *plain) is(h api.Handle, kinds ...api.Kind) bool {
	return slices.Contains([]int{0, 1, 2, 3, 4, 5, 6, 7, 8, 9, 10, 11, 12, 13, 14, 15}, h.Ino) && p.gens[h.Ino] == h.Gen && slices.Contains(kinds, p.kinds[h.Ino])
}

// refusal is the first code whose case holds.
type refusal struct {
	when bool
	code api.Errno
}

func first(all ...refusal) api.Errno {
	for _, r := range all {
		if r.when {
			return r.code
		}
	}
	return ok
}

// dirCode is the first code of a directory's handle and a name.
func (p *plain) dirCode(h api.Handle, name string) api.Errno {
	return first(
		refusal{!p.is(h, kFile, kDir), errHandle},
		refusal{p.is(h, kFile), errNotDir},
		refusal{!isName(name), errName})
}

// fileCode is the first code of a file's handle.
func (p *plain) fileCode(h api.Handle) api.Errno {
	return first(refusal{!p.is(h, kFile, kDir), errHandle}, refusal{p.is(h, kDir), errIsDir})
}

// growth is how many pieces a directory has more with another entry.
func growth(names map[string]int, name string) int {
	more := map[string]int{name: 1}
	maps.Copy(more, names)
	return dirPieces(more) - dirPieces(names)
}

func (p *plain) doEntry(op api.Op) api.Reply {
	if code := p.dirCode(op.At, op.Name); code != ok {
		return api.Reply{Code: code}
	}
	ino, is := p.names[op.At.Ino][op.Name]
	isDir := p.kinds[ino] == kDir
	code := first(
		refusal{!is, errNoEnt},
		refusal{op.Kind == api.OpUnlink && isDir, errIsDir},
		refusal{op.Kind == api.OpRmdir && !isDir, errNotDir},
		refusal{op.Kind == api.OpRmdir && len(p.names[ino]) > 0, errNotEmpty})
	switch {
	case code != ok:
		return api.Reply{Code: code}
	case op.Kind == api.OpLookup:
		return api.Reply{Handle: api.Handle{Ino: ino, Gen: p.gens[ino]}, Kind: p.kinds[ino]}
	}
	delete(p.names[op.At.Ino], op.Name)
	return api.Reply{}
}

func (p *plain) doMake(prefer int, op api.Op, kind api.Kind) api.Reply {
	if code := p.dirCode(op.At, op.Name); code != ok {
		return api.Reply{Code: code}
	}
	if _, is := p.names[op.At.Ino][op.Name]; is {
		return api.Reply{Code: errExist}
	}
	order := []int{0, 1, 2, 3, 4, 5, 6, 7, 8, 9, 10, 11, 12, 13, 14, 15}
	if prefer&1 == 1 {
		order = []int{8, 9, 10, 11, 12, 13, 14, 15, 0, 1, 2, 3, 4, 5, 6, 7}
	}
	i := slices.IndexFunc(order, func(i int) bool { return p.kinds[i] == kNone && p.gens[i] < maxCount })
	if len(p.names[op.At.Ino]) == 8 || i < 0 || p.used()+growth(p.names[op.At.Ino], op.Name) > mostBlocks {
		return api.Reply{Code: errNoSpace}
	}
	ino := order[i]
	p.enter(op.At.Ino, op.Name, ino)
	p.kinds[ino] = kind
	p.gens[ino]++
	return api.Reply{Handle: api.Handle{Ino: ino, Gen: p.gens[ino]}, Kind: kind}
}

func (p *plain) doLink(op api.Op) api.Reply {
	if code := p.fileCode(op.At); code != ok {
		return api.Reply{Code: code}
	}
	if code := p.dirCode(op.To, op.Toname); code != ok {
		return api.Reply{Code: code}
	}
	to := p.names[op.To.Ino]
	_, is := to[op.Toname]
	links := 0
	for _, names := range p.names {
		for _, ino := range names {
			if ino == op.At.Ino {
				links++
			}
		}
	}
	code := first(
		refusal{is, errExist},
		refusal{links == 9, errLinks},
		refusal{len(to) == 8 || p.used()+growth(to, op.Toname) > mostBlocks, errNoSpace})
	if code == ok {
		p.enter(op.To.Ino, op.Toname, op.At.Ino)
	}
	return api.Reply{Code: code}
}

// below are a directory and all directories that stand below it.
func (p *plain) below(i int) []int {
	l := []int{i}
	for _, ino := range p.names[i] {
		if p.kinds[ino] == kDir {
			l = append(l, p.below(ino)...)
		}
	}
	return l
}

func (p *plain) doRename(op api.Op) api.Reply {
	if code := p.dirCode(op.At, op.Name); code != ok {
		return api.Reply{Code: code}
	}
	if code := p.dirCode(op.To, op.Toname); code != ok {
		return api.Reply{Code: code}
	}
	from, to := p.names[op.At.Ino], p.names[op.To.Ino]
	s, is := from[op.Name]
	d, onto := to[op.Toname]
	dirS, dirD := p.kinds[s] == kDir, p.kinds[d] == kDir
	if code := first(refusal{!is, errNoEnt}, refusal{dirS && slices.Contains(p.below(s), op.To.Ino), errLoop}); code != ok {
		return api.Reply{Code: code}
	}
	if onto && d == s {
		return api.Reply{}
	}
	used, had := p.used(), dirPieces(to)
	code := first(
		refusal{onto && dirS && !dirD, errNotDir},
		refusal{onto && !dirS && dirD, errIsDir},
		refusal{onto && dirD && len(p.names[d]) > 0, errNotEmpty},
		refusal{!onto && op.To != op.At && len(to) == 8, errNoSpace})
	delete(from, op.Name)
	p.enter(op.To.Ino, op.Toname, s)
	if more := dirPieces(p.names[op.To.Ino]) - had; code == ok && more > 0 && used+more > mostBlocks {
		code = errNoSpace
	}
	return api.Reply{Code: code}
}

func (p *plain) doRead(op api.Op) api.Reply {
	if code := p.fileCode(op.At); code != ok {
		return api.Reply{Code: code}
	}
	if op.Off < 0 || op.Len < 0 || op.Len > maxIO {
		return api.Reply{Code: errRange}
	}
	var data []byte
	for i := op.Off; i >= 0 && i < p.lengths[op.At.Ino] && len(data) < op.Len; i++ {
		data = append(data, p.bytes[op.At.Ino][i/32][i%32])
	}
	return api.Reply{Data: string(data)}
}

func (p *plain) doWrite(op api.Op) api.Reply {
	if code := p.fileCode(op.At); code != ok {
		return api.Reply{Code: code}
	}
	if op.Off < 0 || len(op.Data) > maxIO {
		return api.Reply{Code: errRange}
	}
	if len(op.Data) == 0 {
		return api.Reply{Size: p.lengths[op.At.Ino]}
	}
	if op.Off > maxSize || op.Off+len(op.Data) > maxSize {
		return api.Reply{Code: errBig}
	}
	for i := range len(op.Data) {
		k, place := (op.Off+i)/32, (op.Off+i)%32
		piece := p.bytes[op.At.Ino][k]
		piece[place] = op.Data[i]
		p.lay(op.At.Ino, k, piece)
	}
	p.lengths[op.At.Ino] = max(p.lengths[op.At.Ino], op.Off+len(op.Data))
	if p.used() > mostBlocks {
		return api.Reply{Code: errNoSpace}
	}
	return api.Reply{Size: p.lengths[op.At.Ino]}
}

func (p *plain) doTrunc(op api.Op) api.Reply {
	if code := p.fileCode(op.At); code != ok {
		return api.Reply{Code: code}
	}
	if op.Off < 0 || op.Off > maxSize {
		return api.Reply{Code: first(refusal{op.Off < 0, errRange}, refusal{true, errBig})}
	}
	pieces := p.bytes[op.At.Ino]
	for k := range allPieces {
		piece, there := pieces[k]
		for i := range piece {
			if 32*k+i >= op.Off {
				piece[i] = 0
			}
		}
		if delete(pieces, k); there && 32*k < op.Off {
			pieces[k] = piece
		}
	}
	p.lengths[op.At.Ino] = op.Off
	return api.Reply{Size: op.Off}
}

func (p *plain) doStat(op api.Op) api.Reply {
	if !p.is(op.At, kFile, kDir) {
		return api.Reply{Code: errHandle}
	}
	n := p.tree()[op.At.Ino]
	return api.Reply{Kind: n.Kind, Links: n.Links, Size: p.lengths[op.At.Ino] + dirBytes(p.names[op.At.Ino])}
}

func (p *plain) doReaddir(op api.Op) api.Reply {
	if code := p.dirCode(op.At, "a"); code != ok {
		return api.Reply{Code: code}
	}
	return api.Reply{Names: slices.Sorted(maps.Keys(p.names[op.At.Ino]))}
}
