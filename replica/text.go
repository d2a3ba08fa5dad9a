package replica

import (
	"lagoon/api"
	"lagoon/codec"
)

// blockText is the text of a block's cell.
func blockText(x api.Cell) string {
	if x == (api.Cell{}) {
		return ""
	}
	var w codec.Writer
	w.Num(x.Seq)
	return string(w.Bytes()) + x.Data
}

// blockOf is the value whose text a block's cell has; the first value, if it has none's.
func blockOf(text string) api.Cell {
	r := codec.NewReader([]byte(text))
	seq := r.Num()
	x := api.Cell{Seq: seq, Data: text[len(text)-r.Left():]}
	if r.Err() != api.OK || !isNext(x) {
		return api.Cell{}
	}
	return x
}

// metaText is the text of the meta's cell.
func metaText(m api.Meta) string {
	if m == (api.Meta{}) {
		return ""
	}
	var w codec.Writer
	numbers(&m, func(n *int) { w.Num(*n) })
	return string(w.Bytes())
}

// metaOf is the meta whose text the cell has; zeros, if it has none's.
func metaOf(text string) api.Meta {
	r := codec.NewReader([]byte(text))
	m, greatest := api.Meta{}, 0
	numbers(&m, func(n *int) {
		*n = r.Num()
		greatest = max(greatest, *n)
	})
	if r.Err() != api.OK || r.Left() > 0 || greatest > api.MaxCount {
		return api.Meta{}
	}
	return m
}

// numbers hands a meta's numbers on, in the order in which they are laid.
func numbers(m *api.Meta, to func(*int)) {
	to(&m.Epoch)
	to(&m.Joined)
	for i := range m.Fences {
		to(&m.Fences[i])
	}
}
