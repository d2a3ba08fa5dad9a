package tree

import (
	"slices"
	"strings"

	"lagoon/api"
)

// entryExtra is how many bytes an entry takes beside its name.
const entryExtra = 2

// chunks says of each of a file's pieces whether it is there.
type chunks = [api.Direct + api.Indirect]bool

// copied is a tree of new memory.
func copied(t api.Tree) api.Tree {
	for i := range t {
		t[i].Data = strings.Clone(t[i].Data)
		t[i].Entries = copiedEntries(t[i].Entries)
	}
	return t
}

// copiedEntries is entries of new memory.
func copiedEntries(l []api.Entry) []api.Entry {
	var own []api.Entry
	for _, e := range l {
		own = append(own, api.Entry{Name: strings.Clone(e.Name), Ino: e.Ino})
	}
	return own
}

// placeOf is where the entry of a name stands, or where it would, and whether there is one.
func placeOf(l []api.Entry, name string) (int, bool) {
	return slices.BinarySearchFunc(l, name, func(e api.Entry, name string) int {
		return strings.Compare(e.Name, name)
	})
}

// with is entries with one more, which takes the place of that of its name, if there is one.
func with(l []api.Entry, name string, ino int) []api.Entry {
	l = without(l, name)
	at, _ := placeOf(l, name)
	return slices.Insert(l, at, api.Entry{Name: strings.Clone(name), Ino: ino})
}

// without is entries, of new memory, without that of a name, if there is one.
func without(l []api.Entry, name string) []api.Entry {
	at, is := placeOf(l, name)
	if !is {
		return slices.Clone(l)
	}
	return slices.Concat(l[:at], l[at+1:])
}

// dirBytes is how many bytes a directory of these entries has.
func dirBytes(l []api.Entry) int {
	sum := 0
	for _, e := range l {
		sum += len(e.Name) + entryExtra
	}
	return sum
}

// pieces is how many pieces a directory of these entries has.
func pieces(l []api.Entry) int {
	return (dirBytes(l) + api.ChunkBytes - 1) / api.ChunkBytes
}

// blocks is how many data blocks a file takes: its pieces that are there, and one more, which points to those that are behind the direct ones.
func blocks(c chunks) int {
	sum := count(c[:])
	if count(c[api.Direct:]) > 0 {
		sum++
	}
	return sum
}

// count is how many of some pieces are there.
func count(there []bool) int {
	sum := 0
	for _, is := range there {
		if is {
			sum++
		}
	}
	return sum
}
