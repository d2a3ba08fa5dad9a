package wal_test

import (
	"fmt"
	"slices"
	"sync"
	"testing"
	"unsafe"

	"lagoon/api"
	"lagoon/wal"
)

// roomy is updates with spare room behind their end, in which something stands.
func roomy(u []api.Update) []api.Update {
	spare := []api.Update{{Block: 79, Ver: 71, Data: "spare"}, {Block: -1}}
	return slices.Concat(u, spare)[: len(u) : len(u)+len(spare)]
}

// roomyConfig is a config whose lists have spare room.
func roomyConfig(x api.Config) api.Config {
	x.Members = append(slices.Clone(x.Members), 71, 0, 1)[:len(x.Members)]
	x.Since = append(slices.Clone(x.Since), 72, 1, 1)[:len(x.Since)]
	return x
}

// shown is all that stands in updates and a config, to the end of their spare room.
func shown(u []api.Update, x api.Config) string {
	return fmt.Sprintf("%d %#v %d %d %d", len(u), u[:cap(u)], x.Epoch, x.Members[:cap(x.Members)], x.Since[:cap(x.Since)])
}

// R5: updates and configs that are handed in stay as they are, the room behind their end too, whatever is answered.
func TestHandedInStays(t *testing.T) {
	d := newDisk(t, 2)
	l := d.opened(0, 0, 1, 1)
	for round := range 4 {
		for _, u := range [][]api.Update{nil, {}, wide(1, 1), wide(3, 2), sized(541, 3), one(0, 0, ""), wide(14, 4), wide(15, 5), one(5, 1, mixed(39, 1)), {{Block: 6, Ver: 1}, {Block: 5, Ver: 1}}} {
			u, x := roomy(u), roomyConfig(d.x)
			was := shown(u, x)
			n, err := wal.Width(u)
			_, _, opens := wal.Open(d.Chain, x, 0, 0, 1)
			appends, clears := l.Append(x, u), ok
			if round%2 == 1 {
				clears = l.Clear(x)
			}
			if is := shown(u, x); is != was {
				t.Errorf("Width %d, %d, Open %d, Append %d, Clear %d: what was handed in is %s; it was %s", n, err, opens, appends, clears, is, was)
			}
		}
		switch round {
		case 1:
			wantErr(t, "Fail", d.Fail(1), ok)
		case 2:
			wantErr(t, "Revive", d.Revive(1, 0, false), ok)
		}
	}
}

// overwritten is updates of texts in memory of their own, and a function that writes over all of that.
func overwritten(u []api.Update) ([]api.Update, func()) {
	u = slices.Clone(u)
	var all [][]byte
	for i := range u {
		b := []byte(u[i].Data)
		u[i].Data = unsafe.String(unsafe.SliceData(b), len(b))
		all = append(all, b)
	}
	return u, func() {
		for _, b := range all {
			for i := range b {
				b[i] ^= 0xff
			}
		}
		for i := range u {
			u[i] = api.Update{Block: 60 - i, Ver: 9, Data: "gone"}
		}
	}
}

// R5: updates, their texts and configs that are handed in aren't kept: they are written over, and what hangs, and what stands in the log, is what it was.
func TestHandedInIsntKept(t *testing.T) {
	for _, u := range [][]api.Update{one(5, 1, "a"), wide(1, 4), wide(5, 2)} {
		d := newDisk(t, 2)
		l := d.opened(0, 0, 1, 1)
		v, over := overwritten(u)
		d.appended(l, v)
		over()
		d.opened(0, 0, 1, 1, u)
		v, over = overwritten(u)
		x := roomyConfig(d.x)
		wantErr(t, "Arm", d.Arm(1, 0), ok)
		wantErr(t, "Append with the power armed", l.Append(x, v), errDown)
		over()
		x.Members[0], x.Members[1], x.Since[0] = 1, 1, 0
		wantErr(t, "Append of what was written over", l.Append(d.x, v), map[bool]api.Errno{true: errBusy, false: errRange}[len(v) == 1])
		wantErr(t, "Append of what hangs, with a node that is down", l.Append(d.x, u), errDown)
		wantErr(t, "Revive", d.Revive(1, 0, false), ok)
		d.appended(l, u)
		d.opened(0, 0, 1, 1, u, u)
	}
}

// sharesBytes tells whether two texts lie over each other in memory. (Those of one byte are the language's own.)
func sharesBytes(a, b string) bool {
	if len(a) < 2 || len(b) < 2 {
		return false
	}
	at, other := uintptr(unsafe.Pointer(unsafe.StringData(a))), uintptr(unsafe.Pointer(unsafe.StringData(b)))
	return at < other+uintptr(len(b)) && other < at+uintptr(len(a))
}

// R6: the records that are answered are new memory, spare room too: all lists of several answers are written over, and none of them has another one's.
func TestAnsweredApart(t *testing.T) {
	d := newDisk(t, 1)
	l := d.opened(0, 0, 1, 1)
	records := [][]api.Update{wide(2, 1), wide(5, 2), wide(1, 3), one(5, 1, "ab"), wide(3, 4)}
	d.appended(l, records...)
	var answers [][][]api.Update
	var texts []string
	for b := range nBlocks {
		texts = append(texts, d.Block(0, b).Data)
	}
	for range 3 {
		_, answer, err := wal.Open(d.Chain, d.x, 0, 1, 1)
		wantErr(t, "Open", err, ok)
		answers = append(answers, answer)
		for _, u := range answer {
			for _, x := range u {
				texts = append(texts, x.Data)
			}
		}
	}
	for i, a := range texts {
		for _, b := range texts[:i] {
			if sharesBytes(a, b) {
				t.Errorf("%q and %q share memory", a, b)
			}
		}
	}
	n := 0
	each(answers, func(u []api.Update, k int) {
		for i := range u {
			u[i] = api.Update{Block: k}
			n++
		}
	})
	each(answers, func(u []api.Update, k int) {
		for _, x := range u {
			if x != (api.Update{Block: k}) {
				t.Errorf("list %d shares memory with another one: %v", k, x)
			}
		}
	})
	if n < 3*12 {
		t.Errorf("there are %d updates only", n)
	}
	for i, answer := range answers {
		answer = answer[:cap(answer)]
		for k := range answer {
			answer[k] = one(i, 0, "")
		}
	}
	for i, answer := range answers {
		for _, u := range answer[:cap(answer)] {
			if len(u) != 1 || u[0].Block != i {
				t.Errorf("answer %d shares memory with another one", i)
			}
		}
	}
	d.opened(0, 0, 1, 1, records...)
	d.appended(l, wide(1, 9))
	d.opened(0, 0, 1, 1, append(records, wide(1, 9))...)
}

// each does a thing with each list of updates, to the end of its spare room, and its number.
func each(answers [][][]api.Update, do func([]api.Update, int)) {
	k := 0
	for _, answer := range answers {
		for _, u := range answer {
			do(u[:cap(u)], k)
			k++
		}
	}
}

// R7: logs of three servers on one chain, and two of one server, don't touch each other but through the chain.
func TestLogsApart(t *testing.T) {
	d := newDisk(t, 2)
	var logs []*wal.Log
	var records [nServers][][]api.Update
	starts := [nServers]int{1, 1, 1}
	for owner := range nServers {
		logs = append(logs, d.opened(owner, 2-owner, 1+owner, 1))
	}
	for round := range 60 {
		owner := round * 7 % 5 % 3
		switch {
		case round%11 == 10:
			starts[owner] = logs[owner].Next() + 1
			records[owner] = nil
			d.cleared(logs[owner])
		case round%13 == 12:
			wantErr(t, "Append by no config", logs[owner].Append(api.Config{}, wide(1, round)), errRange)
			d.appended(logs[owner], wide(1, round))
			records[owner] = append(records[owner], wide(1, round))
		case logs[owner].Room() > 2:
			u := wide(1+round%3, round)
			d.appended(logs[owner], u)
			records[owner] = append(records[owner], u)
		}
		for o := range nServers {
			wantLog(t, "a log", logs[o], len(records[o]), room-widthOf(records[o]...), starts[o]+len(records[o]))
			d.opened(o, 0, 1, starts[o], records[o]...)
		}
	}
}

// R7: logs on disks of their own, at many places at once, are what they are alone.
func TestAtOnce(t *testing.T) {
	var group sync.WaitGroup
	for n := range 8 {
		group.Go(func() {
			d := newDisk(t, 1+n%3)
			l, start := d.opened(n%3, 0, 1, 1), 1
			for round := range 40 {
				u, v := wide(1+round%7, n), wide(1+n, round)
				d.appended(l, u, v)
				d.opened(n%3, 1, 1, start, u, v)
				d.cleared(l)
				start += 3
			}
		})
	}
	group.Wait()
}
