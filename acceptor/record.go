package acceptor

import (
	"lagoon/api"
	"lagoon/codec"
)

const (
	// mostValue is how many bytes a value has at most, mostState a state.
	mostValue = 100
	mostState = 1100
)

// kind of a record.
type kind int

// The kinds, as their records begin.
const (
	promised kind = 1 + iota
	accepted
	learned
)

// record is one change of what is known.
type record struct {
	kind   kind
	number int    // a ballot; of a learned one a slot
	text   string // an accepted one's value, a learned one's state
}

// bytes is the record as it is laid.
func (r record) bytes() []byte {
	var w codec.Writer
	w.Num(int(r.kind))
	w.Num(r.number)
	if r.kind != promised {
		w.Text(r.text)
	}
	return w.Bytes()
}

// recordOf is the record that is laid as these bytes, and whether there is one. No text that is longer than a state is taken up.
func recordOf(b []byte) (record, bool) {
	in := codec.NewReader(b)
	r := record{kind: kind(in.Num())}
	r.number = in.Num()
	if r.kind != promised {
		r.text = in.Text(mostState)
	}
	return r, in.Err() == api.OK && in.Left() == 0
}

// replay hands records on, in order, and tells whether each is one and was taken.
func replay(l [][]byte, take func(record) bool) bool {
	for _, b := range l {
		if r, ok := recordOf(b); !ok || !take(r) {
			return false
		}
	}
	return true
}

// known is what an acceptor's records make.
type known struct {
	promised int
	done     int
	state    string
	pending  api.Accepted
}

// take does what a record does, and tells whether it may be behind those ahead; one that may not does nothing.
func (k *known) take(r record) bool {
	if !isCount(r.number) {
		return false
	}
	switch r.kind {
	case promised:
		if r.number < k.promised {
			return false
		}
		k.promised = r.number
	case accepted:
		if r.number < k.promised || !isValue(r.text) {
			return false
		}
		k.promised = r.number
		k.pending = api.Accepted{Ballot: r.number, Value: r.text}
	case learned:
		if r.number <= k.done {
			return false
		}
		k.done, k.state = r.number, r.text
		k.pending = api.Accepted{}
	default:
		return false
	}
	return true
}

// records are the few that make all this of an acceptor that is new. The promised ballot comes last, as it may be above the one with which a value was accepted.
func (k *known) records() []record {
	var l []record
	if k.done > 0 {
		l = append(l, record{kind: learned, number: k.done, text: k.state})
	}
	if k.pending.Ballot > 0 {
		l = append(l, record{kind: accepted, number: k.pending.Ballot, text: k.pending.Value})
	}
	if k.promised > 0 {
		l = append(l, record{kind: promised, number: k.promised})
	}
	return l
}

// isCount tells whether a number may be a ballot, or a slot.
func isCount(n int) bool {
	return 1 <= n && n <= api.MaxCount
}

// isValue tells whether a text may be a value.
func isValue(s string) bool {
	return 1 <= len(s) && len(s) <= mostValue
}

// isState tells whether a text may be a state.
func isState(s string) bool {
	return len(s) <= mostState
}
