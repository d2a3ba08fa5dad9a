package service_test

import (
	"math/rand"
	"reflect"
	"slices"
	"strconv"
	"strings"
	"testing"

	"lagoon/api"
	"lagoon/service"
)

// goodCommands are one of each kind, no field that is used being 0, but a Server, where that can be.
func goodCommands() []api.Command {
	return []api.Command{
		mountOf(1, 5, 6), renewOf(1, 5, 6, 7), lockOf(2, 5, 6, 7, 8, shared), unlockOf(2, 5, 6, 7, 8),
		helpOf(2, 5, 6, 7, 1), doneOf(1, 5, 6, 7, 2), chainOf(1, 5, 6, 7, 1, 0, 2), passOf(9),
	}
}

// wantMayBe holds ValidCommand against what it should answer, and EncodeCommand and Apply, which refuse what may not be.
func wantMayBe(t *testing.T, c api.Command, want bool) {
	t.Helper()
	if got := service.ValidCommand(c); got != want {
		t.Errorf("ValidCommand(%+v): %v", c, got)
	}
	if want != plainValidCommand(c) {
		t.Errorf("the plain one says that %+v may be: %v", c, !want)
	}
	text, err := service.EncodeCommand(c)
	if want && (err != ok || text != forms(numbersOf(c))) || !want && (err != errRange || text != "") {
		t.Errorf("EncodeCommand(%+v): %q, %d", c, text, err)
	}
	if !want {
		wantError(t, "a command that may not be", full(), c, errRange)
	}
}

// with is a command with another number in one field.
func with(c api.Command, field string, n int) api.Command {
	reflect.ValueOf(&c).Elem().FieldByName(field).SetInt(int64(n))
	return c
}

// P10.1: the numbers of each kind's fields, each at its bounds and past them; fields that it doesn't use are 0.
func TestValidCommandFields(t *testing.T) {
	for _, c := range goodCommands() {
		wantMayBe(t, c, true)
		uses, _ := fieldsUsed(c.Kind)
		for field, b := range fieldBounds() {
			if !hasField(uses, field) {
				b = [2]int{}
			}
			for _, n := range append(farOff(), -1, 0, 1, 2, 3, 4, 17, 18, 19, 20, maxCount-1, maxCount, maxCount+1) {
				wantMayBe(t, with(c, field, n), b[0] <= n && n <= b[1])
			}
		}
		least := 0
		if c.Kind == kPass {
			least = 1
		}
		for _, n := range append(farOff(), -1, 0, 1, 2, maxPass-1, maxPass, maxPass+1) {
			wantMayBe(t, after(n, c), least <= n && n <= maxPass)
		}
	}
}

// P10.1: written down, by kinds: which fields' least numbers, and which greatest ones, are too small or too great.
func TestValidCommandRows(t *testing.T) {
	for _, c := range []api.Command{
		mountOf(0, 1, 1), mountOf(2, maxCount, maxCount), after(maxPass, mountOf(0, 1, 1)),
		renewOf(0, 1, 1, 0), renewOf(2, 1, 1, maxCount), lockOf(0, 1, 1, 0, 0, shared), lockOf(2, 1, 1, 0, 18, sole),
		unlockOf(0, 1, 1, 0, 0), unlockOf(2, 1, 1, maxCount, 18), helpOf(0, 1, 1, 0, 0), helpOf(2, 1, 1, 1, 2), doneOf(0, 1, 1, 0, 2), doneOf(1, 1, 1, 1, 1),
		chainOf(0, 1, 1, 0, 0), chainOf(0, 1, 1, 0, 2), chainOf(0, 1, 1, 0, 2, 1, 0), chainOf(0, 1, 1, 0, 1, 1), chainOf(0, 1, 1, 0, 2, 2, 2),
		passOf(1), passOf(maxPass), {Kind: kMount, Boot: 1, Seq: 1, Members: []int{}}, {Kind: kPass, D: 1, Members: []int{}},
	} {
		wantMayBe(t, c, true)
	}
	for _, c := range []api.Command{
		{}, mountOf(-1, 1, 1), mountOf(3, 1, 1), mountOf(0, 0, 1), mountOf(0, 1, 0), mountOf(0, maxCount+1, 1), mountOf(0, 1, maxCount+1), after(-1, mountOf(0, 1, 1)), after(maxPass+1, mountOf(0, 1, 1)),
		{Kind: kMount, Boot: 1, Seq: 1, Gen: 1}, {Kind: kMount, Boot: 1, Seq: 1, Lock: 1}, {Kind: kMount, Boot: 1, Seq: 1, Mode: 1}, {Kind: kMount, Boot: 1, Seq: 1, Other: 1}, {Kind: kMount, Boot: 1, Seq: 1, Members: []int{0}},
		renewOf(0, 1, 1, -1), renewOf(0, 1, 1, maxCount+1), {Kind: kRenew, Boot: 1, Seq: 1, Gen: 1, Lock: 1},
		lockOf(0, 1, 1, 1, -1, shared), lockOf(0, 1, 1, 1, 19, shared), lockOf(0, 1, 1, 1, 0, free), lockOf(0, 1, 1, 1, 0, 3), lockOf(0, 1, 1, 1, 0, -1),
		unlockOf(0, 1, 1, 1, -1), unlockOf(0, 1, 1, 1, 19), {Kind: kUnlock, Boot: 1, Seq: 1, Gen: 1, Lock: 1, Mode: 1},
		helpOf(0, 1, 1, 1, -1), helpOf(0, 1, 1, 1, 3), doneOf(0, 1, 1, 1, -1), doneOf(0, 1, 1, 1, 3),
		chainOf(0, 1, 1, 1), chainOf(0, 1, 1, 1, 3), chainOf(0, 1, 1, 1, 0, -1), chainOf(0, 1, 1, 1, 0, 1, 2, 0),
		passOf(0), passOf(-1), passOf(maxPass + 1), {Kind: kPass, D: 1, Server: 1}, {Kind: kPass, D: 1, Boot: 1}, {Kind: kPass, D: 1, Seq: 1}, {Kind: kPass, D: 1, Gen: 1}, {Kind: kPass, D: 1, Members: []int{0}},
	} {
		wantMayBe(t, c, false)
	}
}

// P10.1: kinds that are none, with the fields of each one that is.
func TestValidCommandKinds(t *testing.T) {
	for _, kind := range append(farOff(), -8, -7, -1, 0, 9, 10, 16, 255) {
		for _, c := range append(goodCommands(), api.Command{}, api.Command{Members: []int{0}}) {
			wantMayBe(t, with(c, "Kind", kind), false)
		}
	}
	for i, kinds := range []string{"12456", "2456", "3", "4", "56", "56", "7", "8"} {
		for kind := range 10 {
			wantMayBe(t, with(goodCommands()[i], "Kind", kind), strings.Contains(kinds, strconv.Itoa(kind)))
		}
	}
}

// P10.1: Members of each kind: none, nil, some, too many, and numbers that are no storage node's, at each place.
func TestValidCommandMembers(t *testing.T) {
	rows := map[string]bool{"": false, "0": true, "2": true, "01": true, "20": true, "012": true, "210": true, "00": true, "111": true, "0120": false, "0000": false, "3": false, "03": false, "30": false, "013": false, "031": false, "301": false}
	for text, want := range rows {
		members := []int{}
		for _, digit := range text {
			members = append(members, int(digit-'0'))
		}
		for _, c := range goodCommands() {
			c.Members = members
			wantMayBe(t, c, want && c.Kind == kChain || text == "" && c.Kind != kChain)
			for i := range members {
				for _, n := range append(farOff(), -1) {
					c.Members = slices.Clone(members)
					c.Members[i] = n
					wantMayBe(t, c, false)
				}
			}
		}
	}
	for _, c := range goodCommands() {
		c.Members = nil
		wantMayBe(t, c, c.Kind != kChain)
		c.Members = make([]int, 1<<20)
		if service.ValidCommand(c) {
			t.Errorf("%d: a command of many members may be", c.Kind)
		}
		if _, v := service.Apply(full(), c); v.Code != errRange {
			t.Errorf("%d: many members: %d", c.Kind, v.Code)
		}
	}
}

// P10.1: any numbers in all fields at once, beside the plain one.
func TestValidCommandAll(t *testing.T) {
	rnd := rand.New(rand.NewSource(1))
	fields := strings.Fields("Server Boot Seq Gen Lock Mode Other D")
	good := 0
	for range 100000 {
		c := api.Command{Kind: api.CmdKind(rnd.Intn(11) - 1)}
		uses, _ := fieldsUsed(c.Kind)
		for _, field := range fields {
			if hasField(uses, field) || field == "D" || rnd.Intn(60) == 0 {
				c = with(c, field, oneOf(rnd, 1, 1, 2, 2, rnd.Intn(5)-1, rnd.Intn(20)))
			}
		}
		if c.Kind == kChain || rnd.Intn(60) == 0 {
			for range rnd.Intn(5) {
				c.Members = append(c.Members, oneOf(rnd, 0, 1, 2, 2, rnd.Intn(5)-1))
			}
		}
		want := plainValidCommand(c)
		if got := service.ValidCommand(c); got != want {
			t.Fatalf("ValidCommand(%+v): %v", c, got)
		}
		if want {
			good++
		}
	}
	if good < 20000 || good > 80000 {
		t.Errorf("%d of them may be", good)
	}
}

// P10.3: the bytes of commands, written down.
func TestEncodeCommandRows(t *testing.T) {
	for _, c := range []struct {
		c    api.Command
		text string
	}{
		{mountOf(0, 1, 1), "\x01\x00\x01\x01\x00\x00\x00\x00\x00\x00"},
		{after(maxPass, mountOf(2, 300, 127)), "\x01\x02\xac\x02\x7f\x00\x00\x00\x00\x00\x80\x80\x40"},
		{renewOf(1, 2, 3, 4), "\x02\x01\x02\x03\x04\x00\x00\x00\x00\x00"},
		{after(5, lockOf(1, 2, 3, 4, 18, sole)), "\x03\x01\x02\x03\x04\x12\x02\x00\x00\x05"},
		{unlockOf(1, 2, 3, 128, 17), "\x04\x01\x02\x03\x80\x01\x11\x00\x00\x00\x00"},
		{helpOf(1, 2, 3, 4, 2), "\x05\x01\x02\x03\x04\x00\x00\x02\x00\x00"},
		{doneOf(1, 2, maxCount, 4, 2), "\x06\x01\x02\x80\x80\x80\x80\x80\x20\x04\x00\x00\x02\x00\x00"},
		{after(1, chainOf(1, 2, 3, 4, 2, 0, 1)), "\x07\x01\x02\x03\x04\x00\x00\x00\x03\x02\x00\x01\x01"},
		{passOf(7), "\x08\x00\x00\x00\x00\x00\x00\x00\x00\x07"},
	} {
		text, err := service.EncodeCommand(c.c)
		if text != c.text || err != ok {
			t.Errorf("EncodeCommand(%+v): %x, %d; want %x", c.c, text, err, c.text)
		}
		wantDecodedCommand(t, c.text, c.c, ok)
	}
}

// wantDecodedCommand holds what DecodeCommand answers against what it should.
func wantDecodedCommand(t *testing.T, text string, want api.Command, wantErr api.Errno) {
	t.Helper()
	c, err := service.DecodeCommand(text)
	if err != wantErr || !equalCommands(c, want) {
		t.Errorf("DecodeCommand(%x): %+v, %d; want %+v, %d", text, c, err, want, wantErr)
	}
}

// wantPlainCommand holds what DecodeCommand answers against what the plain one does: ErrForm, or the command whose bytes are just these. It tells whether there is one.
func wantPlainCommand(t *testing.T, text string) bool {
	t.Helper()
	want, wantErr := plainDecodeCommand(text)
	wantDecodedCommand(t, text, want, wantErr)
	if wantErr == ok && forms(numbersOf(want)) != text {
		t.Errorf("the plain one takes %x for %+v", text, want)
	}
	return wantErr == ok
}

// spoilt are texts that become of one: cut at every length, with a byte more, with one byte another, with one number in a longer form, or another number, and with one number more or less.
func spoilt(text string, numbers []int) []string {
	all := []string{text + "\x00", text + "\x01", text + "\x80", "\x00" + text, text + text}
	for i := range text {
		all = append(all, text[:i])
		for _, b := range []byte{0, 1, 2, 3, 4, 18, 19, 20, 0x7f, 0x80, 0xff, text[i] ^ 1, text[i] ^ 0x80, text[i] + 1, text[i] - 1} {
			if b != text[i] {
				all = append(all, text[:i]+string([]byte{b})+text[i+1:])
			}
		}
	}
	for i := range numbers {
		head, one, tail := forms(numbers[:i]), forms(numbers[i:i+1]), forms(numbers[i+1:])
		longer := one[:len(one)-1] + string([]byte{one[len(one)-1] | 0x80})
		all = append(all, head+longer+"\x00"+tail, head+longer+"\x80\x00"+tail, head+longer+strings.Repeat("\x80", 8)+"\x01"+tail)
		all = append(all, head+tail, head+"\x00"+one+tail, head+"\x01"+one+tail)
		for _, n := range []int{maxCount, maxCount + 1, maxCount + 2, maxTime, maxTime + lease, maxTime + lease + 1, 1 << 32, 1<<32 + 1, 1 << 62, 1<<63 - 1} {
			all = append(all, head+forms([]int{n})+tail)
		}
	}
	return all
}

// P10.3, P10.6: there and back, of commands at their bounds and at random, and of all texts that become of these by a fault.
func TestDecodeCommand(t *testing.T) {
	rnd := rand.New(rand.NewSource(2))
	commands := goodCommands()
	for range 200 {
		commands = append(commands, randomCommand(rnd, randomState(rnd)))
	}
	good := 0
	for _, c := range commands {
		text, err := service.EncodeCommand(c)
		if err != ok || text != forms(numbersOf(c)) {
			t.Errorf("EncodeCommand(%+v): %x, %d", c, text, err)
		}
		wantDecodedCommand(t, text, c, ok)
		for i := range text {
			wantDecodedCommand(t, text[:i], api.Command{}, errForm)
		}
		for _, more := range []string{"\x00", "\x01", "\x80", text} {
			wantDecodedCommand(t, text+more, api.Command{}, errForm)
		}
		for _, s := range spoilt(text, numbersOf(c)) {
			if wantPlainCommand(t, s) {
				good++
			}
		}
	}
	if good < 1000 {
		t.Errorf("of the spoilt texts %d are a command's", good)
	}
}

// P10.3: texts that are no command's: ErrForm, and the zero command (R3).
func TestDecodeCommandAmiss(t *testing.T) {
	for _, c := range []api.Command{{}, mountOf(3, 1, 1), mountOf(0, 0, 1), after(maxPass+1, mountOf(0, 1, 1)), lockOf(0, 1, 1, 1, 19, 1), lockOf(0, 1, 1, 1, 1, 0), chainOf(0, 1, 1, 1), chainOf(0, 1, 1, 1, 3), chainOf(0, 1, 1, 1, 0, 0, 0, 0), passOf(0), {Kind: 9, Boot: 1, Seq: 1}, {Kind: kRenew, Boot: 1, Seq: 1, Members: []int{0}}, chainOf(0, 1, 1, 1, make([]int, 1000)...)} {
		wantDecodedCommand(t, forms(numbersOf(c)), api.Command{}, errForm)
	}
	many := []int{7, 0, 1, 1, 1, 0, 0, 0}
	for _, n := range []int{4, 5, 19, 20, 21, 1 << 20, 1 << 40, 1<<63 - 1} {
		wantDecodedCommand(t, forms(append(many, n)), api.Command{}, errForm)
		wantDecodedCommand(t, forms(append(many, n, 0)), api.Command{}, errForm)
		wantDecodedCommand(t, forms(append(many, n, 0, 1, 2, 0)), api.Command{}, errForm)
	}
	rnd := rand.New(rand.NewSource(3))
	for _, s := range []string{"", "\x00", "\x01", "\x80", "command", strings.Repeat("\x00", 10), strings.Repeat("\x01", 10), strings.Repeat("\xff", 100), strings.Repeat("\x01", 1<<20)} {
		wantDecodedCommand(t, s, api.Command{}, errForm)
	}
	for range 20000 {
		b := make([]byte, rnd.Intn(16))
		for i := range b {
			b[i] = oneOf(rnd, byte(rnd.Intn(256)), byte(rnd.Intn(4)), byte(rnd.Intn(4)), 0, 0)
		}
		wantPlainCommand(t, string(b))
	}
}

// P10.3: any bytes: ErrForm, or the command whose bytes are just these.
func FuzzDecodeCommand(f *testing.F) {
	for _, c := range goodCommands() {
		f.Add(forms(numbersOf(c)))
	}
	f.Add("no command")
	f.Fuzz(func(t *testing.T, s string) { wantPlainCommand(t, s) })
}
