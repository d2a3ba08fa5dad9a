package replica_test

import (
	"strings"
	"testing"

	"lagoon/api"
	"lagoon/replica"
)

// cellOf is sectors in which one cell has a text, and all others what stands in some.
func cellOf(i int, text string) [][]byte {
	return with(laid(some()), 2*i, make([]byte, sectorBytes), sector(3, text))
}

// blockless is texts that are no block's.
func blockless() map[string]string {
	return map[string]string{
		"a number without its end":     "\x80",
		"a longer one":                 "\xff\xff\xff",
		"ends missing, eight bytes":    strings.Repeat("\x80", 8),
		"a form with a zero behind":    "\x81\x00",
		"a longer one of 0":            "\x80\x00",
		"a form of nine bytes and one": strings.Repeat("\x80", 9) + "\x01",
		"only ones":                    strings.Repeat("\xff", 51),
		"0 and no bytes":               "\x00",
		"0 and a byte":                 "\x00a",
		"0 and zeros":                  "\x00\x00\x00",
		"0 and 44 bytes":               "\x00" + mixed(44, 1),
		"0 and a block's text":         "\x00\x05five",
		"45 bytes":                     "\x01" + mixed(45, 1),
		"50 bytes":                     "\x01" + mixed(50, 1),
		"50 zeros":                     "\x01" + strings.Repeat("\x00", 50),
		"45 bytes, 7 to 300":           forms(300) + mixed(45, 1),
		"45 bytes of MaxCount":         forms(maxCount) + mixed(45, 1),
		"MaxCount + 1":                 forms(maxCount+1) + "x",
		"MaxCount + 1 and no bytes":    forms(maxCount + 1),
		"the 42nd bit":                 forms(1<<41) + "x",
		"the 41st bit and more":        forms(1<<40+1<<32) + "x",
		"the greatest number":          forms(1<<63-1) + "x",
		"a number of nine bytes":       forms(1<<56) + "x",
	}
}

// metaless is texts that aren't the meta's.
func metaless() map[string]string {
	l := map[string]string{
		"a number alone":            forms(5),
		"two":                       forms(5, 4),
		"four":                      forms(5, 4, 7, 1),
		"six":                       forms(5, 4, 7, 1, 3, 1),
		"a zero behind":             forms(5, 4, 7, 1, 3, 0),
		"a byte behind":             forms(5, 4, 7, 1, 3) + "\x80",
		"many bytes behind":         forms(5, 4, 7, 1, 3) + mixed(46, 1),
		"all zeros":                 forms(0, 0, 0, 0, 0),
		"all zeros, one more":       forms(0, 0, 0, 0, 0, 0),
		"all zeros, one less":       forms(0, 0, 0, 0),
		"the last without its end":  forms(5, 4, 7, 1) + "\x83",
		"a block's":                 forms(3) + "three",
		"51 zeros":                  strings.Repeat("\x00", 51),
		"ones":                      strings.Repeat("\xff", 51),
		"the last form of 0 longer": forms(5, 4, 7, 1) + "\x80\x00",
	}
	for i, place := range []string{"epoch", "joined", "fence 0", "fence 1", "fence 2"} {
		for what, form := range map[string]string{"longer": "\x85\x00", "of nine bytes": strings.Repeat("\x80", 8) + "\x00", "without an end": strings.Repeat("\x81", 9) + "\x01", "too great": forms(maxCount + 1), "far too great": forms(1 << 62)} {
			parts := []string{forms(5), forms(4), forms(7), forms(1), forms(3)}
			parts[i] = form
			l["the "+place+" "+what] = strings.Join(parts, "")
			l["the "+place+" "+what+", the others zeros"] = strings.Repeat("\x00", i) + form + strings.Repeat("\x00", 4-i)
		}
	}
	return l
}

// P7.1: a block's cell whose text isn't as the Words say counts as empty, and the others stand; it goes on from none.
func TestBlockless(t *testing.T) {
	for what, text := range blockless() {
		for _, b := range []int{0, 3, 5, 127} {
			image := cellOf(b, text)
			s := from(t, image)
			want := some()
			want.blocks[b] = none
			r := wantOpened(t, s, want)
			wantErr(t, "Load of none", r.Load(b, none), ok)
			wantStill(t, s, image, 0)
			x := api.Cell{Seq: 1, Data: "on"}
			wantErr(t, "Apply", r.Apply(b, x, 1, 1), ok)
			want.blocks[b] = x
			wantState(t, r, want)
			wantStill(t, s, with(image, 2*b, sector(4, "\x01on")), 1)
			wantOpened(t, s, want)
			if t.Failed() {
				t.Fatalf("block %d: %s", b, what)
			}
		}
	}
}

// P7.1: a meta's cell whose text isn't as the Words say counts as empty, and the blocks stand; it goes on from zeros.
func TestMetaless(t *testing.T) {
	for what, text := range metaless() {
		image := cellOf(metaAt, text[:min(len(text), 51)])
		s := from(t, image)
		want := some()
		want.meta = api.Meta{}
		r := wantOpened(t, s, want)
		wantErr(t, "Join(0)", r.Join(0), ok)
		wantStill(t, s, image, 0)
		wantErr(t, "Apply", r.Apply(0, want.blocks[0], 0, 1), ok)
		wantErr(t, "Fence", r.Fence(1, 300), ok)
		want.meta.Fences[1] = 300
		wantState(t, r, want)
		wantStill(t, s, with(image, 256, sector(4, "\x00\x00\x00\xac\x02\x00")), 1)
		wantOpened(t, s, want)
		if t.Failed() {
			t.Fatalf("the meta: %s", what)
		}
	}
}

// P7.1: texts that are a block's, at the bounds of what may be.
func TestBlocks(t *testing.T) {
	for text, want := range map[string]api.Cell{
		"":                             none,
		"\x01":                         {Seq: 1},
		"\x01a":                        {Seq: 1, Data: "a"},
		"\x01\x00":                     {Seq: 1, Data: "\x00"},
		"\x7f\x80":                     {Seq: 127, Data: "\x80"},
		"\x80\x01\x00":                 {Seq: 128, Data: "\x00"},
		"\xac\x02ab":                   {Seq: 300, Data: "ab"},
		"\x01" + mixed(44, 1):          {Seq: 1, Data: mixed(44, 1)},
		forms(maxCount):                {Seq: maxCount},
		forms(maxCount) + mixed(44, 2): {Seq: maxCount, Data: mixed(44, 2)},
		"\x80\x80\x80\x80\x80\x20\x00": {Seq: maxCount, Data: "\x00"},
		forms(maxCount-1) + "\xff":     {Seq: maxCount - 1, Data: "\xff"},
	} {
		for _, b := range []int{0, 5, 127} {
			state := some()
			state.blocks[b] = want
			wantOpened(t, from(t, cellOf(b, text)), state)
		}
	}
}

// P7.1: texts that are the meta's: the order of the numbers, and their bounds.
func TestMetas(t *testing.T) {
	for text, want := range map[string]api.Meta{
		"":                             {},
		"\x01\x02\x03\x04\x05":         {Epoch: 1, Joined: 2, Fences: [3]int{3, 4, 5}},
		"\x01\x00\x00\x00\x00":         {Epoch: 1},
		"\x00\x01\x00\x00\x00":         {Joined: 1},
		"\x00\x00\x01\x00\x00":         {Fences: [3]int{1, 0, 0}},
		"\x00\x00\x00\x01\x00":         {Fences: [3]int{0, 1, 0}},
		"\x00\x00\x00\x00\x01":         {Fences: [3]int{0, 0, 1}},
		"\x80\x01\xac\x02\x00\x7f\x01": {Epoch: 128, Joined: 300, Fences: [3]int{0, 127, 1}},
		forms(maxCount, maxCount, maxCount, maxCount, maxCount): {Epoch: maxCount, Joined: maxCount, Fences: [3]int{maxCount, maxCount, maxCount}},
		forms(0, maxCount, 0, maxCount-1, 0):                    {Joined: maxCount, Fences: [3]int{0, maxCount - 1, 0}},
	} {
		state := some()
		state.meta = want
		wantOpened(t, from(t, cellOf(metaAt, text)), state)
	}
}

// P7.1: a cell in which no text stands, as its sectors are torn or of no value, is empty; where one of them has an older text, that counts.
func TestTorn(t *testing.T) {
	for _, i := range []int{0, 3, 127, metaAt} {
		want := some()
		older := some()
		if i == metaAt {
			want.meta = api.Meta{}
			older.meta = api.Meta{Epoch: 3}
		} else {
			want.blocks[i] = none
			older.blocks[i] = api.Cell{Seq: 3, Data: "\x00\x00\x00\x00"}
		}
		wantOpened(t, from(t, with(laid(some()), 2*i, nil, nil)), want)
		text := "\x03\x00\x00\x00\x00"
		wantOpened(t, from(t, with(laid(some()), 2*i, nil, sector(7, text))), older)
		wantOpened(t, from(t, with(laid(some()), 2*i, sector(7, text), sector(6, "\x09"))), older)
	}
}

// P7.2: what a call on a block writes: one sector, that of the block's cell with the number's form and the bytes; of the value 0 and none no text.
func TestBlockBytes(t *testing.T) {
	for _, b := range []int{0, 1, 64, 127} {
		r, s := fresh(t)
		image := blank(need)
		for k, x := range []struct {
			load  bool
			value api.Cell
			text  string
		}{
			{false, api.Cell{Seq: 1, Data: "a"}, "\x01a"},
			{false, api.Cell{Seq: 2}, "\x02"},
			{false, api.Cell{Seq: 127, Data: "\x00\x00"}, "\x7f\x00\x00"},
			{true, api.Cell{Seq: 1, Data: "a"}, "\x01a"},
			{false, api.Cell{Seq: 128, Data: "\xff"}, "\x80\x01\xff"},
			{true, none, ""},
			{false, api.Cell{Seq: 300, Data: mixed(44, 1)}, "\xac\x02" + mixed(44, 1)},
			{true, api.Cell{Seq: 5}, "\x05"},
			{true, none, ""},
			{true, api.Cell{Seq: maxCount, Data: mixed(44, 2)}, "\x80\x80\x80\x80\x80\x20" + mixed(44, 2)},
		} {
			if x.load {
				wantErr(t, "Load", r.Load(b, x.value), ok)
			} else {
				wantErr(t, "Apply", r.Apply(b, x.value, 2, 5), ok)
			}
			image = with(image, 2*b+k%2, sector(k+1, x.text))
			wantStill(t, s, image, k+1)
			wantOpened(t, s, told(r))
			if r.Block(b) != x.value {
				t.Errorf("Block(%d): %v; want %v", b, r.Block(b), x.value)
			}
		}
	}
}

// P7.3: what a call on the meta writes: one sector, that of cell 128, with the forms of all five numbers; of zeros no text.
func TestMetaBytes(t *testing.T) {
	r, s := holding(t, state{blocks: some().blocks})
	image := laid(state{blocks: some().blocks})
	for k, x := range []struct {
		do   func() api.Errno
		text string
	}{
		{func() api.Errno { return r.Join(300) }, "\x00\xac\x02\x00\x00\x00"},
		{func() api.Errno { return r.Join(0) }, ""},
		{func() api.Errno { return r.Join(1) }, "\x00\x01\x00\x00\x00"},
		{func() api.Errno { return r.Adopt(2) }, "\x02\x01\x00\x00\x00"},
		{func() api.Errno { return r.Fence(0, 3) }, "\x02\x01\x03\x00\x00"},
		{func() api.Errno { return r.Fence(2, 128) }, "\x02\x01\x03\x00\x80\x01"},
		{func() api.Errno { return r.Fence(1, 4) }, "\x02\x01\x03\x04\x80\x01"},
		{func() api.Errno { return r.Join(0) }, "\x02\x00\x03\x04\x80\x01"},
		{func() api.Errno { return r.Adopt(maxCount) }, "\x80\x80\x80\x80\x80\x20\x00\x03\x04\x80\x01"},
		{func() api.Errno { return r.Fence(0, maxCount) }, "\x80\x80\x80\x80\x80\x20\x00\x80\x80\x80\x80\x80\x20\x04\x80\x01"},
	} {
		wantErr(t, "the call", x.do(), ok)
		image = with(image, 256+k%2, sector(k+1, x.text))
		wantStill(t, s, image, k+1)
		wantOpened(t, s, told(r))
	}
}

// R6, R7: texts that are handed in come back as they were, of any bytes.
func TestTexts(t *testing.T) {
	r, s := fresh(t)
	var want state
	seq := 0
	for x := range 256 {
		for _, text := range []string{string([]byte{byte(x)}), string([]byte{byte(x), 0, byte(x)}), strings.Repeat(string([]byte{byte(x)}), 44)} {
			seq++
			want.blocks[7] = api.Cell{Seq: seq, Data: text}
			wantErr(t, "Apply", r.Apply(7, want.blocks[7], 0, 1), ok)
			if r.Block(7) != want.blocks[7] {
				t.Errorf("Block: %v; want %v", r.Block(7), want.blocks[7])
			}
		}
		r, _ = replica.Open(s)
		wantState(t, r, want)
	}
}
