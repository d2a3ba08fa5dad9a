package cache_test

import (
	"slices"
	"sort"

	"lagoon/api"
)

// plain is a cache as the chapter tells it, by lists that are gone through from end to end.
type plain struct {
	known   []api.Update // in any order, each block once
	dirty   []int
	records [][]api.Update
}

// at is where a block stands among those that are known; -1, if it doesn't.
func (p *plain) at(b int) int {
	return slices.IndexFunc(p.known, func(x api.Update) bool { return x.Block == b })
}

// brought tells whether a record brings a block.
func (p *plain) brought(b int) bool {
	for _, u := range p.records {
		for _, x := range u {
			if x.Block == b {
				return true
			}
		}
	}
	return false
}

// put has a block be known.
func (p *plain) put(x api.Update) {
	if i := p.at(x.Block); i >= 0 {
		p.known = slices.Delete(p.known, i, i+1)
	}
	p.known = append(p.known, x)
}

// plainRecord tells whether updates may be a record, as chapter 15 tells it.
func plainRecord(u []api.Update) bool {
	for i, x := range u {
		if x.Block < 1 || x.Block > lastHome || x.Ver < 1 || x.Ver > maxCount || len(x.Data) > dataBytes {
			return false
		}
		if i > 0 && u[i-1].Block >= x.Block {
			return false
		}
	}
	return len(u) >= 1 && lengthOf(u) <= longest
}

// load as P16.1 tells it.
func (p *plain) load(b int, x api.Block) api.Errno {
	if b < 1 || b > lastHome || x.Ver < 0 || x.Ver > maxCount || len(x.Data) > dataBytes || x.Ver == 0 && x.Data != "" {
		return errRange
	}
	if slices.Contains(p.dirty, b) {
		return errBusy
	}
	p.put(api.Update{Block: b, Ver: x.Ver, Data: x.Data})
	return ok
}

// commit as P16.2 tells it.
func (p *plain) commit(u []api.Update) api.Errno {
	if !plainRecord(u) {
		return errRange
	}
	for _, x := range u {
		if i := p.at(x.Block); i < 0 || p.known[i].Ver+1 != x.Ver {
			return errStale
		}
	}
	for _, x := range u {
		p.put(x)
		p.dirty = append(slices.DeleteFunc(p.dirty, func(b int) bool { return b == x.Block }), x.Block)
	}
	p.records = append(p.records, slices.Clone(u))
	return ok
}

// logged as P16.2 tells it.
func (p *plain) logged() bool {
	if len(p.records) == 0 {
		return false
	}
	p.records = slices.Delete(p.records, 0, 1)
	return true
}

// ready as P16.3 tells it.
func (p *plain) ready() []api.Update {
	var l []api.Update
	for _, b := range p.dirty {
		if !p.brought(b) {
			l = append(l, p.known[p.at(b)])
		}
	}
	sort.Slice(l, func(i, k int) bool { return l[i].Block < l[k].Block })
	return l
}

// clean as P16.3 tells it.
func (p *plain) clean(b, ver int) bool {
	i := slices.Index(p.dirty, b)
	if i < 0 || p.brought(b) || p.known[p.at(b)].Ver != ver {
		return false
	}
	p.dirty = slices.Delete(p.dirty, i, i+1)
	return true
}

// tell is what it tells of itself.
func (p *plain) tell() told {
	var y told
	for _, x := range p.known {
		y.disk[x.Block], y.has[x.Block] = value(x.Ver, x.Data), true
	}
	if len(p.records) > 0 {
		y.first, y.is = p.records[0], true
	}
	y.ready, y.anyDirty = p.ready(), len(p.dirty) > 0
	return y
}
