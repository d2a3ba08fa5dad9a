package layout_test

import (
	"strings"
	"testing"

	"lagoon/api"
	"lagoon/layout"
)

// P14.1, P14.2: blocks and their bytes, written down.
func TestBlockRows(t *testing.T) {
	for s, b := range map[string]api.Block{
		"":                             {},
		"\x01":                         {Ver: 1},
		"\x01\x00":                     {Ver: 1, Data: "\x00"},
		"\x01a":                        {Ver: 1, Data: "a"},
		"\x7f\x80":                     {Ver: 127, Data: "\x80"},
		"\x80\x01":                     {Ver: 128},
		"\x80\x01\x00":                 {Ver: 128, Data: "\x00"},
		"\xac\x02x":                    {Ver: 300, Data: "x"},
		"\x80\x80\x80\x80\x80\x20":     {Ver: 1 << 40},
		"\x80\x80\x80\x80\x80\x20\xff": {Ver: 1 << 40, Data: "\xff"},
		"\xff\xff\xff\xff\xff\x1f\x20": {Ver: 1<<40 - 1, Data: " "},
		"\x05" + mixed(38, 1):          {Ver: 5, Data: mixed(38, 1)},
		"\x05" + mixed(37, 2):          {Ver: 5, Data: mixed(37, 2)},
		"\x80\x80\x80\x80\x80\x20" + strings.Repeat("\x00", 38): {Ver: 1 << 40, Data: strings.Repeat("\x00", 38)},
	} {
		blocks().wantBytes(t, b, s)
	}
}

// P14.1: which blocks may be: each version by each number of bytes.
func TestBlockEdges(t *testing.T) {
	for _, ver := range append(farOff(), -2, -1, 0, 1, 2, 127, 128, maxCount-1, maxCount, maxCount+1, maxCount+2, 1<<41) {
		for _, n := range []int{0, 1, 2, 37, 38, 39, 40, 43, 44, 45, 256, 300, 1 << 16} {
			may := within(ver, 1, maxCount) && n <= 38 || ver == 0 && n == 0
			blocks().wantEither(t, api.Block{Ver: ver, Data: mixed(n, ver)}, may)
			blocks().wantEither(t, api.Block{Ver: ver, Data: strings.Repeat("\x00", n)}, may)
		}
	}
}

// P14.2: bytes that are no block's.
func TestBlockForm(t *testing.T) {
	for what, s := range map[string]string{
		"the version 0":                        "\x00",
		"the version 0 and a byte":             "\x00a",
		"the version 0 and 0":                  "\x00\x00",
		"the version 0 and 38 bytes":           "\x00" + mixed(38, 1),
		"the version 0, longer":                "\x80\x00",
		"the version 1, longer":                "\x81\x00",
		"the version 1, longer, and a byte":    "\x81\x00a",
		"300, longer":                          "\xac\x82\x00x",
		"2^40, longer":                         "\x80\x80\x80\x80\x80\xa0\x00x",
		"a version without its end":            "\x80",
		"300 without its end":                  "\xac",
		"2^40 without its end":                 "\x80\x80\x80\x80\x80",
		"a version of nine bytes without end":  strings.Repeat("\xff", 9),
		"a version of ten bytes":               strings.Repeat("\x80", 9) + "\x01",
		"2^40 + 1":                             "\x81\x80\x80\x80\x80\x20",
		"2^40 + 1 and a byte":                  "\x81\x80\x80\x80\x80\x20a",
		"2^41":                                 form(1 << 41),
		"2^41 + 1 and a byte":                  form(1<<41+1) + "a",
		"2^32 * 2^9 and a byte":                form(1<<41) + "a",
		"2^62":                                 form(1 << 62),
		"the greatest number":                  form(1<<63 - 1),
		"the greatest number and a byte":       form(1<<63-1) + "a",
		"39 bytes":                             "\x01" + mixed(39, 1),
		"39 zeros":                             "\x01" + strings.Repeat("\x00", 39),
		"39 bytes, 45 with the version":        form(maxCount) + mixed(39, 1),
		"44 bytes":                             "\x01" + mixed(43, 1),
		"many bytes":                           "\x01" + mixed(1<<20, 1),
		"many bytes, all of a version's":       strings.Repeat("\x80", 1<<20),
		"many ones":                            strings.Repeat("\x01", 1<<20),
		"what a block's bytes are, twice more": "\x01" + strings.Repeat("\x01"+mixed(19, 1), 2),
	} {
		blocks().wantForm(t, what, s)
	}
}

// P14.4: all bytes that become of a block's by a fault; a cut one is no more than a shorter block, or none.
func TestBlockSpoilt(t *testing.T) {
	for _, b := range []api.Block{{}, {Ver: 1}, {Ver: 300, Data: "x"}, {Ver: 127, Data: mixed(38, 3)}, {Ver: maxCount, Data: mixed(38, 4)}, {Ver: maxCount - 1, Data: "\x00\x80"}} {
		s, err := layout.EncodeBlock(b)
		if err != ok {
			t.Fatalf("EncodeBlock(%v): %d", b, err)
		}
		blocks().wantSpoilt(t, s)
	}
	for i := range 39 {
		blocks().wantThing(t, "\xac\x02"+mixed(i, 5), api.Block{Ver: 300, Data: mixed(i, 5)})
	}
}
