package layout_test

import (
	"math/rand"
	"slices"
	"strings"
	"testing"

	"lagoon/api"
)

// Things at random that may be.

func randomBlock(rnd *rand.Rand) api.Block {
	return api.Block{Ver: oneOf(rnd, 1+rnd.Intn(300), 1<<rnd.Intn(41), maxCount-rnd.Intn(300)), Data: mixed(rnd.Intn(39), rnd.Intn(1000))}
}

func randomPointer(rnd *rand.Rand) int {
	return oneOf(rnd, 0, firstData, lastData, firstData+rnd.Intn(48))
}

func randomInode(rnd *rand.Rand) api.Inode {
	x := api.Inode{Kind: api.Kind(rnd.Intn(3)), Gen: oneOf(rnd, rnd.Intn(300), 1<<rnd.Intn(41), maxCount-rnd.Intn(300))}
	if x.Kind == kNone {
		return x
	}
	for i := range x.Direct {
		x.Direct[i] = randomPointer(rnd)
	}
	x.Links, x.Size, x.Indirect = 1, rnd.Intn(mostDir+1), rnd.Intn(16)
	if x.Kind == kFile {
		x.Links, x.Size, x.Indirect = 1+rnd.Intn(9), rnd.Intn(maxSize+1), randomPointer(rnd)
	}
	return x
}

func randomPointers(rnd *rand.Rand) [8]int {
	var l [8]int
	for i := range l {
		l[i] = randomPointer(rnd)
	}
	return l
}

func randomName(rnd *rand.Rand) string {
	b := make([]byte, 1+rnd.Intn(6))
	for i := range b {
		b[i] = letters[rnd.Intn(len(letters))]
	}
	return string(b)
}

func randomEntries(rnd *rand.Rand) []api.Entry {
	var l []api.Entry
	for range rnd.Intn(9) {
		l = append(l, api.Entry{Name: randomName(rnd), Ino: rnd.Intn(16)})
	}
	slices.SortFunc(l, func(x, y api.Entry) int { return strings.Compare(x.Name, y.Name) })
	return slices.CompactFunc(l, func(x, y api.Entry) bool { return x.Name == y.Name })
}

func randomSegment(rnd *rand.Rand) api.Segment {
	return segmentOf(rnd.Intn(1<<8), rnd.Intn(1<<24))
}

// wantBack wants many things at random to be there and back.
func wantBack[T any](t *testing.T, k thing[T], random func(*rand.Rand) T) {
	t.Helper()
	rnd := rand.New(rand.NewSource(2))
	for range 3000 {
		x := random(rnd)
		s, _ := k.bytes(x)
		k.wantBytes(t, x, s)
	}
}

// P14.4: there and back: what was given to each Encode its Decode gives back.
func TestBack(t *testing.T) {
	wantBack(t, blocks(), randomBlock)
	wantBack(t, inodes(), randomInode)
	wantBack(t, pointerRows(), randomPointers)
	wantBack(t, directories(), randomEntries)
	wantBack(t, segments(), randomSegment)
}

// wantAll wants of bytes what the plain ones say, whatever they are taken for; and tells of how many kinds of things they are.
func wantAll(t *testing.T, s string) int {
	t.Helper()
	n := 0
	for _, is := range []bool{blocks().wantPlain(t, s), inodes().wantPlain(t, s), pointerRows().wantPlain(t, s), directories().wantPlain(t, s), segments().wantPlain(t, s)} {
		if is {
			n++
		}
	}
	return n
}

// P14.2, P14.4: all texts of up to two bytes, and all of up to five bytes of those that count most.
func TestShort(t *testing.T) {
	wantAll(t, "")
	for x := range 256 {
		wantAll(t, string([]byte{byte(x)}))
		for y := range 256 {
			wantAll(t, string([]byte{byte(x), byte(y)}))
		}
	}
	const few = "\x00\x01\x02\x0f\x10\x7f\x80ab"
	for length := 3; length <= 5; length++ {
		b := make([]byte, length)
		for n := 0; ; n++ {
			rest := n
			for i := range b {
				b[i] = few[rest%len(few)]
				rest /= len(few)
			}
			if rest > 0 {
				break
			}
			wantAll(t, string(b))
		}
	}
}

// P14.2, P14.4: numbers at random, each mostly one that may be, and bytes at random: what is decoded is encoded as the same bytes.
func TestRandomBytes(t *testing.T) {
	rnd := rand.New(rand.NewSource(3))
	good := 0
	for range 30000 {
		s := ""
		for range oneOf(rnd, 2, 2, 8, 8, 9, 9, 9, rnd.Intn(12)) {
			n := oneOf(rnd, 0, 0, 0, 1, 1, 2, firstData, lastData, rnd.Intn(16), randomPointer(rnd), randomPointer(rnd), oneOf(rnd, farOff()...)&(1<<63-1), rnd.Intn(400), rnd.Intn(1<<24))
			s += oneOf(rnd, form(n), form(n), form(n), form(n), form(n), form(n), form(n), form(n), form(n), longer(n), form(n)[:1])
		}
		good += wantAll(t, s)
		b := []byte(s)
		for i := range b {
			if rnd.Intn(8) == 0 {
				b[i] = byte(rnd.Intn(256))
			}
		}
		good += wantAll(t, string(b))
	}
	if good < 20000 {
		t.Errorf("of the bytes %d are a thing's", good)
	}
}

// P14.2, P14.4: entries at random, spoilt in one place.
func TestRandomEntries(t *testing.T) {
	rnd := rand.New(rand.NewSource(4))
	good := 0
	for range 20000 {
		l := randomEntries(rnd)
		if len(l) == 0 {
			continue
		}
		e := &l[rnd.Intn(len(l))]
		switch rnd.Intn(4) {
		case 0:
			e.Name = randomName(rnd)
		case 1:
			e.Name += string(letters[rnd.Intn(len(letters))])
		case 2:
			e.Ino += rnd.Intn(16)
		case 3:
			l[0], *e = *e, l[0]
		}
		s := laidEntries(l)
		_, may := plainEntriesBytes(l)
		directories().wantEither(t, l, may)
		if directories().wantPlain(t, s) != may {
			t.Errorf("the plain ones don't agree on %v", l)
		}
		if may {
			good++
		}
	}
	if good < 4000 {
		t.Errorf("%d of the entries may be", good)
	}
}

// P14.2, P14.4: any bytes: what each Decode answers is what they say, and they are the only ones of it.
func FuzzOneForm(f *testing.F) {
	rnd := rand.New(rand.NewSource(5))
	for range 10 {
		f.Add(laidEntries(randomEntries(rnd)))
		f.Add(formsOf(numbersOf(randomInode(rnd))...))
	}
	f.Add("\xac\x02x")
	f.Add("\xff\x01\xff\xff\xff\x07")
	f.Add("\x20\x21\x22\x23\x24\x25\x26\x27")
	f.Fuzz(func(t *testing.T, s string) { wantAll(t, s) })
}
