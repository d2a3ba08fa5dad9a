package codec_test

import (
	"bytes"
	"hash/crc32"
	"math"
	"math/rand"
	"strings"
	"testing"

	"lagoon/api"
	"lagoon/codec"
)

// forms: numbers, and the bytes that each is laid down as.
var forms = []struct {
	n    int
	form string
}{
	{0, "\x00"},
	{1, "\x01"},
	{127, "\x7f"},
	{128, "\x80\x01"},
	{129, "\x81\x01"},
	{255, "\xff\x01"},
	{256, "\x80\x02"},
	{300, "\xac\x02"},
	{1<<14 - 1, "\xff\x7f"},
	{1 << 14, "\x80\x80\x01"},
	{1<<21 - 1, "\xff\xff\x7f"},
	{1 << 21, "\x80\x80\x80\x01"},
	{1 << 32, "\x80\x80\x80\x80\x10"},
	{1<<56 - 1, "\xff\xff\xff\xff\xff\xff\xff\x7f"},
	{1 << 56, "\x80\x80\x80\x80\x80\x80\x80\x80\x01"},
	{1 << 62, "\x80\x80\x80\x80\x80\x80\x80\x80\x40"},
	{math.MaxInt - 1, "\xfe\xff\xff\xff\xff\xff\xff\xff\x7f"},
	{math.MaxInt, "\xff\xff\xff\xff\xff\xff\xff\xff\x7f"},
}

// texts of many kinds: empty, any bytes, lengths around those at which the length's form grows.
func texts() []string {
	all := make([]byte, 256)
	for i := range all {
		all[i] = byte(i)
	}
	return []string{"", "a", "ab", "\x00", "\x80\xff\x00", "zwölf", string(all), strings.Repeat("x", 127), strings.Repeat("y", 128), strings.Repeat("z", 1<<14), strings.Repeat("\x80", 100000)}
}

// filled is the bytes of a text with spare room behind them, that is all of one byte.
func filled(s string) []byte {
	whole := append([]byte(s), "########"...)
	return whole[:len(s)]
}

// untouched tells whether what filled made is as it was.
func untouched(b []byte, s string) bool {
	return string(b[:len(s)+8]) == s+"########"
}

// scribble writes over a list and the spare room behind it.
func scribble(b []byte) {
	b = b[:cap(b)]
	for i := range b {
		b[i] = 0xee
	}
}

func wantReader(t *testing.T, what string, r *codec.Reader, left int, err api.Errno) {
	t.Helper()
	if r.Left() != left || r.Err() != err {
		t.Errorf("%s: Left %d, Err %d; want %d, %d", what, r.Left(), r.Err(), left, err)
	}
}

// P1.1: a number's form.
func TestWriterNum(t *testing.T) {
	for _, c := range forms {
		var w codec.Writer
		w.Num(c.n)
		if string(w.Bytes()) != c.form {
			t.Errorf("Num(%d): % x; want % x", c.n, w.Bytes(), c.form)
		}
	}
	for _, n := range []int{-1, -5, -128, -1 << 32, math.MinInt} {
		var w codec.Writer
		w.Num(n)
		if string(w.Bytes()) != "\x00" {
			t.Errorf("Num(%d): % x; want 00", n, w.Bytes())
		}
	}
}

// P1.1: a text's form.
func TestWriterText(t *testing.T) {
	for _, c := range []struct{ s, form string }{
		{"", "\x00"},
		{"ab", "\x02ab"},
		{"\x00\xff", "\x02\x00\xff"},
		{strings.Repeat("q", 127), "\x7f" + strings.Repeat("q", 127)},
		{strings.Repeat("q", 128), "\x80\x01" + strings.Repeat("q", 128)},
		{strings.Repeat("q", 300), "\xac\x02" + strings.Repeat("q", 300)},
	} {
		var w codec.Writer
		w.Text(c.s)
		if string(w.Bytes()) != c.form {
			t.Errorf("Text(%q): % x; want % x", c.s, w.Bytes(), c.form)
		}
	}
}

// P1.1: each form stands behind what there is, also when the bytes were asked for meanwhile.
func TestWriterGoesOn(t *testing.T) {
	var w codec.Writer
	if len(w.Bytes()) != 0 {
		t.Errorf("the zero Writer has laid % x down", w.Bytes())
	}
	want := ""
	for _, c := range []struct {
		lay  func()
		form string
	}{
		{func() { w.Num(5) }, "\x05"},
		{func() { w.Text("ab") }, "\x02ab"},
		{func() { w.Num(-1) }, "\x00"},
		{func() { w.Text("") }, "\x00"},
		{func() { w.Num(300) }, "\xac\x02"},
	} {
		c.lay()
		want += c.form
		if string(w.Bytes()) != want || string(w.Bytes()) != want {
			t.Errorf("laid down: % x; want % x", w.Bytes(), want)
		}
	}
}

// A nil Writer lays nothing down.
func TestNilWriter(t *testing.T) {
	var w *codec.Writer
	w.Num(5)
	w.Num(-5)
	w.Text("ab")
	if len(w.Bytes()) != 0 {
		t.Errorf("a nil Writer has laid % x down", w.Bytes())
	}
}

// R6: bytes that a writer answered are shared neither with it nor with other answers.
func TestWriterBytesAreNew(t *testing.T) {
	var w codec.Writer
	w.Text("abc")
	first, second := w.Bytes(), w.Bytes()
	scribble(first)
	if string(second) != "\x03abc" || string(w.Bytes()) != "\x03abc" {
		t.Errorf("two answers share memory: % x, % x", second, w.Bytes())
	}
	w.Text("de")
	scribble(second)
	if string(w.Bytes()) != "\x03abc\x02de" {
		t.Errorf("an answer shares memory with the writer: % x", w.Bytes())
	}
}

// R7: writers don't touch each other, a copy of one neither.
func TestWritersApart(t *testing.T) {
	var a, other codec.Writer
	a.Text("abc")
	other.Num(9)
	b := a
	a.Num(1)
	b.Num(2)
	c := b
	b.Text("xy")
	b = c
	b.Num(3)
	for _, x := range []struct {
		w    *codec.Writer
		want string
	}{{&a, "\x03abc\x01"}, {&b, "\x03abc\x02\x03"}, {&c, "\x03abc\x02"}, {&other, "\x09"}} {
		if string(x.w.Bytes()) != x.want {
			t.Errorf("a writer beside others: % x; want % x", x.w.Bytes(), x.want)
		}
	}
}

// P1.2: a reader takes the number's form and no byte more.
func TestReaderNum(t *testing.T) {
	for _, c := range forms {
		for _, behind := range []string{"", "\x00", "\xff", "ab"} {
			r := codec.NewReader([]byte(c.form + behind))
			if n := r.Num(); n != c.n {
				t.Errorf("Num of % x: %d; want %d", c.form+behind, n, c.n)
			}
			wantReader(t, "behind a number", r, len(behind), api.OK)
		}
	}
}

// P1.2: the errors of Num: nothing is taken.
func TestReaderNumErrors(t *testing.T) {
	eights := func(n int) string { return strings.Repeat("\x80", n) }
	for _, c := range []struct {
		b   string
		err api.Errno
	}{
		{"", api.ErrShort},
		{"\x80", api.ErrShort},
		{"\xff\xff\xff", api.ErrShort},
		{eights(8), api.ErrShort},
		{"\x80\x00", api.ErrForm},
		{"\xff\x00", api.ErrForm},
		{"\xff\xff\x00\x01", api.ErrForm},
		{eights(8) + "\x00", api.ErrForm},
		{eights(9), api.ErrForm},
		{eights(9) + "\x01", api.ErrForm},
		{strings.Repeat("\xff", 9), api.ErrForm},
		{strings.Repeat("\xff", 8) + "\x80", api.ErrForm},
		{eights(20), api.ErrForm},
	} {
		r := codec.NewReader([]byte(c.b))
		if n := r.Num(); n != 0 {
			t.Errorf("Num of % x: %d; want 0", c.b, n)
		}
		wantReader(t, "a number that is none", r, len(c.b), c.err)
		s := codec.NewReader([]byte(c.b))
		if x := s.Text(math.MaxInt); x != "" {
			t.Errorf("Text of % x: %q; want none", c.b, x)
		}
		wantReader(t, "a text's length that is none", s, len(c.b), c.err)
	}
}

// P1.2: the text, and its errors, by the bytes and by most.
func TestReaderText(t *testing.T) {
	for _, c := range []struct {
		b    string
		most int
		want string
		left int
		err  api.Errno
	}{
		{"\x02ab", 2, "ab", 0, api.OK},
		{"\x02ab", 3, "ab", 0, api.OK},
		{"\x02abc", math.MaxInt, "ab", 1, api.OK},
		{"\x02ab", 1, "", 3, api.ErrForm},
		{"\x02ab", 0, "", 3, api.ErrForm},
		{"\x02ab", -1, "", 3, api.ErrForm},
		{"\x02a", 9, "", 2, api.ErrShort},
		{"\x02a", 1, "", 2, api.ErrForm},
		{"\x02", 2, "", 1, api.ErrShort},
		{"", 2, "", 0, api.ErrShort},
		{"\x00", 0, "", 0, api.OK},
		{"\x00z", -1, "", 1, api.OK},
		{"\x00z", math.MinInt, "", 1, api.OK},
		{"\x01z", math.MinInt, "", 2, api.ErrForm},
		{"\xff\xff\xff\xff\xff\xff\xff\xff\x7fab", math.MaxInt, "", 11, api.ErrShort},
		{"\xff\xff\xff\xff\xff\xff\xff\xff\x7fab", math.MaxInt - 1, "", 11, api.ErrForm},
		{"\x80\x01" + strings.Repeat("q", 129), 128, strings.Repeat("q", 128), 1, api.OK},
		{"\x80\x01" + strings.Repeat("q", 127), 128, "", 129, api.ErrShort},
	} {
		r := codec.NewReader([]byte(c.b))
		if s := r.Text(c.most); s != c.want {
			t.Errorf("Text(%d) of % x: %q; want %q", c.most, c.b, s, c.want)
		}
		wantReader(t, "behind a text", r, c.left, c.err)
	}
}

// P1.2: once there is an error it stays, and nothing is taken any more.
func TestReaderErrorStays(t *testing.T) {
	for _, c := range []struct {
		b   string
		err api.Errno
	}{{"\x05\x02ab\x01", api.ErrForm}, {"\x05\x09ab\x01", api.ErrShort}} {
		r := codec.NewReader([]byte(c.b))
		if n := r.Num(); n != 5 {
			t.Errorf("Num: %d; want 5", n)
		}
		most := 1
		if c.err == api.ErrShort {
			most = 9
		}
		if s := r.Text(most); s != "" {
			t.Errorf("Text: %q; want none", s)
		}
		for range 3 {
			if n, s := r.Num(), r.Text(99); n != 0 || s != "" {
				t.Errorf("behind an error: %d, %q", n, s)
			}
			wantReader(t, "behind an error", r, len(c.b)-1, c.err)
		}
	}
	r := codec.NewReader([]byte("\x05\x02ab"))
	if r.Num() != 5 || r.Text(2) != "ab" {
		t.Error("a reader of 05 02 61 62")
	}
	wantReader(t, "all taken", r, 0, api.OK)
	if r.Num() != 0 {
		t.Error("Num of nothing")
	}
	wantReader(t, "nothing left", r, 0, api.ErrShort)
}

// A nil Reader has nothing; a reader of nothing no error, ahead of taking something.
func TestNilReader(t *testing.T) {
	var r *codec.Reader
	if r.Num() != 0 || r.Text(9) != "" || r.Text(-1) != "" {
		t.Error("a nil Reader takes something up")
	}
	wantReader(t, "a nil Reader", r, 0, api.ErrNil)
	wantReader(t, "a reader of nil", codec.NewReader(nil), 0, api.OK)
	wantReader(t, "a reader of no bytes", codec.NewReader([]byte{}), 0, api.OK)
	wantReader(t, "the zero Reader", &codec.Reader{}, 0, api.OK)
}

// R5, R7: a reader neither changes nor keeps its bytes, nor does another one of the same bytes.
func TestReaderBytes(t *testing.T) {
	const form = "\x05\x02ab\x03cde"
	b := filled(form)
	r, other := codec.NewReader(b), codec.NewReader(b)
	if r.Num() != 5 || r.Text(2) != "ab" || r.Text(9) != "cde" {
		t.Error("a reader with spare room behind its bytes")
	}
	wantReader(t, "all taken", r, 0, api.OK)
	wantReader(t, "another reader", other, len(form), api.OK)
	if !untouched(b, form) {
		t.Errorf("a reader changed its bytes: %q", b[:cap(b)])
	}
	scribble(b)
	if other.Num() != 5 || other.Text(2) != "ab" || other.Text(9) != "cde" {
		t.Error("a reader has kept the bytes handed in")
	}
}

// P1.3: the checksum, as examples and another program tell it.
func TestSum(t *testing.T) {
	for _, c := range []struct {
		s    string
		want uint32
	}{
		{"", 0},
		{"a", 0xc1d04330},
		{"123456789", 0xe3069283},
		{strings.Repeat("\x00", 32), 0x8a9136aa},
		{strings.Repeat("\xff", 32), 0x62a8ab43},
	} {
		if got := codec.Sum([]byte(c.s)); got != c.want {
			t.Errorf("Sum(%q): %08x; want %08x", c.s, got, c.want)
		}
	}
	if codec.Sum(nil) != 0 {
		t.Error("Sum(nil)")
	}
	table := crc32.MakeTable(crc32.Castagnoli)
	for _, s := range texts() {
		b := filled(s)
		if got, want := codec.Sum(b), crc32.Checksum([]byte(s), table); got != want || !untouched(b, s) {
			t.Errorf("Sum of %d bytes: %08x; want %08x", len(s), got, want)
		}
	}
}

// P1.3: four bytes, the lowest first; of new memory.
func TestFour(t *testing.T) {
	for _, c := range []struct {
		x    uint32
		want string
	}{
		{0, "\x00\x00\x00\x00"},
		{1, "\x01\x00\x00\x00"},
		{255, "\xff\x00\x00\x00"},
		{256, "\x00\x01\x00\x00"},
		{0x04030201, "\x01\x02\x03\x04"},
		{0xfffefdfc, "\xfc\xfd\xfe\xff"},
		{math.MaxUint32, "\xff\xff\xff\xff"},
	} {
		b := codec.Four(c.x)
		if string(b) != c.want {
			t.Errorf("Four(%d): % x; want % x", c.x, b, c.want)
		}
		scribble(b)
		if string(codec.Four(c.x)) != c.want {
			t.Errorf("Four(%d) answers memory that it answered before", c.x)
		}
		if x, ok := codec.OfFour([]byte(c.want)); x != c.x || !ok {
			t.Errorf("OfFour(% x): %d, %v; want %d", c.want, x, ok, c.x)
		}
		if x, ok := codec.OfFour([]byte(c.want + "\xff\x01")); x != c.x || !ok {
			t.Errorf("OfFour(% x ff 01): %d, %v; want %d", c.want, x, ok, c.x)
		}
	}
	for _, s := range []string{"", "\x01", "\x01\x02", "\x01\x02\x03"} {
		if x, ok := codec.OfFour(filled(s)); x != 0 || ok {
			t.Errorf("OfFour(% x): %d, %v; want 0, false", s, x, ok)
		}
	}
	if x, ok := codec.OfFour(nil); x != 0 || ok {
		t.Errorf("OfFour(nil): %d, %v", x, ok)
	}
}

// P1.3: a Seal is the bytes and their checksum's, and what is sealed is opened.
func TestSealOpen(t *testing.T) {
	if b := codec.Seal([]byte("123456789")); string(b) != "123456789\x83\x92\x06\xe3" {
		t.Errorf("Seal(123456789): % x", b)
	}
	if b := codec.Seal(nil); string(b) != "\x00\x00\x00\x00" {
		t.Errorf("Seal(nil): % x", b)
	}
	for _, s := range texts() {
		sealed := codec.Seal([]byte(s))
		if want := s + string(codec.Four(codec.Sum([]byte(s)))); string(sealed) != want {
			t.Errorf("Seal of %d bytes: % x", len(s), sealed)
		}
		if b, ok := codec.Open(sealed); string(b) != s || !ok {
			t.Errorf("Open of a Seal of %d bytes: %d bytes, %v", len(s), len(b), ok)
		}
	}
}

// P1.3: what nothing's Seal is isn't opened.
func TestOpenRefuses(t *testing.T) {
	for _, s := range []string{"", "\x00", "\x00\x00\x00", "\x01\x00\x00\x00", "a\x00\x00\x00\x00", "123456789", "123456789\xe3\x06\x92\x83", "123456789\x83\x92\x06\xe3\x00", "123456789\x83\x92\x06"} {
		if b, ok := codec.Open(filled(s)); len(b) != 0 || ok {
			t.Errorf("Open(% x): % x, %v; want none, false", s, b, ok)
		}
	}
	if b, ok := codec.Open(nil); len(b) != 0 || ok {
		t.Errorf("Open(nil): % x, %v", b, ok)
	}
}

// R5, R6: Seal and Open neither change what they are handed nor answer memory of it.
func TestSealMemory(t *testing.T) {
	for _, s := range []string{"", "a", "123456789"} {
		b := filled(s)
		sealed := codec.Seal(b)
		whole := string(sealed)
		if !untouched(b, s) {
			t.Errorf("Seal changed its bytes: %q", b[:cap(b)])
		}
		scribble(b)
		if string(sealed) != whole {
			t.Error("Seal answers memory that was handed in")
		}
		c := filled(whole)
		opened, ok := codec.Open(c)
		again, _ := codec.Open(c)
		scribble(again)
		if string(opened) != s || !ok || !untouched(c, whole) {
			t.Errorf("Open of a Seal of %q: %q, %v", s, opened, ok)
		}
		scribble(c)
		if string(opened) != s {
			t.Error("Open answers memory that was handed in")
		}
	}
}

// item: a number or a text, as it is laid down and taken up.
type item struct {
	isText bool
	n      int
	s      string
}

func randomItems(dice *rand.Rand) []item {
	items := make([]item, dice.Intn(20))
	for i := range items {
		b := make([]byte, dice.Intn(200))
		dice.Read(b)
		items[i] = item{dice.Intn(2) == 0, dice.Int() >> dice.Intn(63), string(b)}
	}
	return items
}

func lay(items []item) []byte {
	var w codec.Writer
	for _, x := range items {
		if x.isText {
			w.Text(x.s)
		} else {
			w.Num(x.n)
		}
	}
	return w.Bytes()
}

func checkBack(t *testing.T, items []item, slack int) {
	t.Helper()
	r := codec.NewReader(lay(items))
	for i, x := range items {
		if x.isText {
			if s := r.Text(len(x.s) + slack); s != x.s {
				t.Errorf("item %d: %q; want %q", i, s, x.s)
			}
		} else if n := r.Num(); n != x.n {
			t.Errorf("item %d: %d; want %d", i, n, x.n)
		}
	}
	wantReader(t, "all taken up", r, 0, api.OK)
}

// P1.4: there and back.
func TestThereAndBack(t *testing.T) {
	var all []item
	for _, c := range forms {
		all = append(all, item{n: c.n})
	}
	for _, s := range texts() {
		all = append(all, item{isText: true, s: s})
	}
	checkBack(t, all, 0)
	checkBack(t, all, 1000)
	checkBack(t, nil, 0)
	dice := rand.New(rand.NewSource(1))
	for range 500 {
		checkBack(t, randomItems(dice), dice.Intn(3))
	}
}

// checkOneForm takes things up as the kinds say, and lays them down again.
func checkOneForm(t *testing.T, b []byte, kinds uint64) {
	t.Helper()
	r := codec.NewReader(b)
	var w codec.Writer
	for range 64 {
		before := w
		if kinds&1 == 0 {
			w.Num(r.Num())
		} else {
			w.Text(r.Text(math.MaxInt))
		}
		if r.Err() != api.OK {
			w = before
			break
		}
		kinds >>= 1
	}
	if taken := b[:len(b)-r.Left()]; !bytes.Equal(w.Bytes(), taken) {
		t.Errorf("taken up from % x, laid down as % x", taken, w.Bytes())
	}
}

// P1.5: one form: of all short lists, and of many longer ones.
func TestOneForm(t *testing.T) {
	for a := range 256 {
		for kinds := range uint64(4) {
			checkOneForm(t, []byte{byte(a)}, kinds)
			for b := range 256 {
				checkOneForm(t, []byte{byte(a), byte(b)}, kinds)
			}
		}
	}
	dice := rand.New(rand.NewSource(2))
	bytesOf := []byte{0, 1, 2, 3, 127, 128, 129, 255}
	for range 20000 {
		b := make([]byte, dice.Intn(24))
		for i := range b {
			b[i] = bytesOf[dice.Intn(len(bytesOf))]
		}
		checkOneForm(t, b, dice.Uint64())
	}
}

func FuzzOneForm(f *testing.F) {
	f.Add([]byte("\x05\x02ab"), uint64(2))
	f.Add([]byte("\x80\x00"), uint64(0))
	f.Add([]byte("\xff\xff\xff\xff\xff\xff\xff\xff\x7f"), uint64(1))
	f.Fuzz(func(t *testing.T, b []byte, kinds uint64) { checkOneForm(t, b, kinds) })
}

// P1.6: another byte, another checksum; and a Seal with another byte isn't opened.
func TestOtherByte(t *testing.T) {
	dice := rand.New(rand.NewSource(3))
	for _, n := range []int{1, 2, 9, 60} {
		b := make([]byte, n)
		dice.Read(b)
		sum := codec.Sum(b)
		for i := range b {
			for x := range 255 {
				b[i]++
				if codec.Sum(b) == sum {
					t.Errorf("byte %d of %d turned by %d: one checksum", i, n, x+1)
				}
			}
			b[i]++
		}
		checkSealTurned(t, codec.Seal(b))
	}
	checkSealTurned(t, codec.Seal(nil))
}

func checkSealTurned(t *testing.T, sealed []byte) {
	t.Helper()
	for i := range sealed {
		for x := range 255 {
			sealed[i]++
			if b, ok := codec.Open(sealed); len(b) != 0 || ok {
				t.Errorf("byte %d of %d turned by %d: opened", i, len(sealed), x+1)
			}
		}
		sealed[i]++
	}
	if _, ok := codec.Open(sealed); !ok {
		t.Error("turned back it isn't opened")
	}
}
