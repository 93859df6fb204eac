package image_test

import (
	"bytes"
	"encoding/binary"
	"math"
	"math/rand"
	"reflect"
	"slices"
	"strconv"
	"strings"
	"testing"

	"bauta/api"
	"bauta/image"
)

// The three sorts of a manifest's cells.
var sorts = []struct {
	name string
	of   func(m *api.Manifest) *[]api.Cell
}{
	{"Secrets", func(m *api.Manifest) *[]api.Cell { return &m.Secrets }},
	{"Publics", func(m *api.Manifest) *[]api.Cell { return &m.Publics }},
	{"Outs", func(m *api.Manifest) *[]api.Cell { return &m.Outs }},
}

// The numbers of a manifest, with the greatest that each may be.
var numbers = []struct {
	name string
	of   func(m *api.Manifest) *int
	most int
}{
	{"Order", func(m *api.Manifest) *int { return &m.Order }, 1<<31 - 1},
	{"Steps", func(m *api.Manifest) *int { return &m.Steps }, 1<<31 - 1},
	{"Random", func(m *api.Manifest) *int { return &m.Random }, 1<<31 - 1},
	{"Words", func(m *api.Manifest) *int { return &m.Words }, 16000},
}

// some is a manifest with cells in all three lists.
func some() api.Manifest {
	return api.Manifest{
		Order: 2, Steps: 70000, Random: 9, Words: 259,
		Secrets: []api.Cell{{Name: "key", At: 0}, {Name: "b", At: 3}},
		Publics: []api.Cell{{Name: "n", At: 16000}},
		Outs:    []api.Cell{{Name: "out", At: 258}, {Name: "b", At: 6}, {Name: "\x00\xff", At: 1}},
	}
}

// full is a manifest with as much of everything as may be.
func full() api.Manifest {
	m := api.Manifest{Order: 1<<31 - 1, Steps: 1<<31 - 1, Random: 1<<31 - 1, Words: 16000}
	for _, s := range sorts {
		*s.of(&m) = manyCells(64)
	}
	return m
}

func manyCells(n int) []api.Cell {
	l := make([]api.Cell, n)
	for k := range l {
		digits := strconv.Itoa(k)
		l[k] = api.Cell{Name: strings.Repeat("x", 32-len(digits)) + digits, At: 16000 - k}
	}
	return l
}

// rising is n halfwords whose bytes differ.
func rising(n int) []uint16 {
	code := make([]uint16, n)
	for k := range code {
		code[k] = uint16(40503 * (k + 1))
	}
	return code
}

// layOut writes an image's bytes as the document says, also of what is none; the number of halfwords is handed in, so that it may be wrong.
func layOut(count uint32, code []uint16, m api.Manifest) []byte {
	b := []byte("MSK1")
	for _, n := range []int{m.Order, m.Steps, m.Random, m.Words} {
		b = binary.LittleEndian.AppendUint32(b, uint32(n))
	}
	b = binary.LittleEndian.AppendUint32(b, count)
	for _, h := range code {
		b = binary.LittleEndian.AppendUint16(b, h)
	}
	for _, l := range [][]api.Cell{m.Secrets, m.Publics, m.Outs} {
		b = append(b, byte(len(l)))
		for _, c := range l {
			b = append(b, byte(len(c.Name)))
			b = append(b, c.Name...)
			b = binary.LittleEndian.AppendUint32(b, uint32(c.At))
		}
	}
	return b
}

func bytesOf(code []uint16, m api.Manifest) []byte {
	return layOut(uint32(len(code)), code, m)
}

// same tells whether two manifests are alike, nil lists and empty ones being alike.
func same(a, b api.Manifest) bool {
	return a.Order == b.Order && a.Steps == b.Steps && a.Random == b.Random && a.Words == b.Words &&
		slices.Equal(a.Secrets, b.Secrets) && slices.Equal(a.Publics, b.Publics) && slices.Equal(a.Outs, b.Outs)
}

// fine looks whether an image goes there and back, and its bytes are the document's.
func fine(t *testing.T, what string, code []uint16, m api.Manifest) {
	t.Helper()
	if !image.Can(m) {
		t.Errorf("%s: Can is false", what)
	}
	want := bytesOf(code, m)
	b, e := image.Put(code, m)
	if !bytes.Equal(b, want) || e != api.OK {
		t.Errorf("%s: Put: %d bytes, %v, not %d bytes", what, len(b), e, len(want))
	}
	c, n, e := image.Take(want)
	if !slices.Equal(c, code) || !same(n, m) || e != api.OK {
		t.Errorf("%s: Take: %d halfwords, %+v, %v", what, len(c), n, e)
	}
}

// cannot looks whether m is refused by Can, by Put, and by Take behind all bytes, and there only.
func cannot(t *testing.T, what string, m api.Manifest) {
	t.Helper()
	if image.Can(m) {
		t.Errorf("%s: Can is true", what)
	}
	for _, n := range []int{0, 3, 60000, 60001} {
		if b, e := image.Put(make([]uint16, n), m); len(b) != 0 || e != api.ErrArg {
			t.Errorf("%s: Put with %d halfwords: %d bytes, %v", what, n, len(b), e)
		}
	}
	if !canBeLaid(m) {
		return
	}
	b := bytesOf([]uint16{1, 2, 3}, m)
	refused(t, what, b, api.ErrForm)
	refused(t, what+", bytes left", append(b, 0), api.ErrForm)
	refused(t, what+", one byte less", b[:len(b)-1], api.ErrShort)
	refused(t, what+", no halfwords yet", b[:24], api.ErrShort)
	refused(t, what+", too many halfwords", layOut(60001, []uint16{1, 2, 3}, m), api.ErrLong)
}

// canBeLaid tells whether all of m has room in an image's bytes; what is below 0 would be written as another number, which can't be either.
func canBeLaid(m api.Manifest) bool {
	for _, n := range []int{m.Order, m.Steps, m.Random, m.Words} {
		if n != int(int32(n)) && n != int(uint32(n)) {
			return false
		}
	}
	for _, l := range [][]api.Cell{m.Secrets, m.Publics, m.Outs} {
		if len(l) > 255 {
			return false
		}
		for _, c := range l {
			if len(c.Name) > 255 || c.At != int(int32(c.At)) && c.At != int(uint32(c.At)) {
				return false
			}
		}
	}
	return true
}

// refused looks whether Take answers just that error.
func refused(t *testing.T, what string, b []byte, want api.Errno) {
	t.Helper()
	code, m, e := image.Take(b)
	if len(code) != 0 || !same(m, api.Manifest{}) || e != want {
		t.Errorf("%s: Take: %d halfwords, %+v, %v, not %v", what, len(code), m, e, want)
	}
}

// P3.1: each number at its least and its greatest, one below, one beyond, and far out.
func TestNumbersOfManifests(t *testing.T) {
	fine(t, "zero", nil, api.Manifest{})
	for _, x := range numbers {
		for _, base := range []func() api.Manifest{func() api.Manifest { return api.Manifest{} }, some, full} {
			for _, n := range []int{0, 1, 255, 256, 15999, x.most - 1, x.most} {
				m := base()
				*x.of(&m) = n
				fine(t, x.name+" "+strconv.Itoa(n), []uint16{7}, m)
			}
			for _, n := range []int{-1, -2, x.most + 1, x.most + 2, 1 << 31, 1<<32 - 1, 1 << 32, 1<<32 + 1, math.MinInt32, math.MinInt, math.MaxInt} {
				m := base()
				*x.of(&m) = n
				cannot(t, x.name+" "+strconv.Itoa(n), m)
			}
		}
	}
}

// P3.1: each list's length; which of the cells there are does not matter.
func TestLengthsOfLists(t *testing.T) {
	for _, s := range sorts {
		for _, n := range []int{0, 1, 2, 63, 64} {
			m := api.Manifest{}
			*s.of(&m) = manyCells(n)
			fine(t, s.name+" of "+strconv.Itoa(n), rising(5), m)
		}
		for _, n := range []int{65, 66, 128, 255, 256, 257, 1000} {
			m := some()
			*s.of(&m) = manyCells(n)
			cannot(t, s.name+" of "+strconv.Itoa(n), m)
		}
	}
}

// P3.1: each name's length, of the first cell and of the last one; a name's bytes may be any, and names may be the same.
func TestLengthsOfNames(t *testing.T) {
	for _, s := range sorts {
		for _, at := range []int{0, 1, 63} {
			for _, n := range []int{1, 2, 31, 32} {
				m := full()
				(*s.of(&m))[at].Name = strings.Repeat("\xf0", n)
				fine(t, s.name+": a name of "+strconv.Itoa(n), nil, m)
			}
			for _, n := range []int{0, 33, 34, 255, 256, 257, 288} {
				m := full()
				(*s.of(&m))[at].Name = strings.Repeat("n", n)
				cannot(t, s.name+": a name of "+strconv.Itoa(n), m)
			}
		}
		m := some()
		*s.of(&m) = []api.Cell{{Name: "twice", At: 1}, {Name: "twice", At: 2}, {Name: "\x00", At: 3}, {Name: "\n,\xff", At: 4}}
		fine(t, s.name+": names", nil, m)
	}
}

// P3.1: each At, of the first cell and of the last one; it does not hang on Words.
func TestPlacesOfCells(t *testing.T) {
	for _, s := range sorts {
		for _, at := range []int{0, 1, 63} {
			for _, n := range []int{0, 1, 255, 256, 15999, 16000} {
				m := full()
				m.Words = 0
				(*s.of(&m))[at].At = n
				fine(t, s.name+": At "+strconv.Itoa(n), nil, m)
			}
			for _, n := range []int{-1, -2, 16001, 16002, 1 << 16, 1 << 31, 1<<32 - 1, 1 << 32, 1<<32 + 5, math.MinInt, math.MaxInt} {
				m := full()
				(*s.of(&m))[at].At = n
				cannot(t, s.name+": At "+strconv.Itoa(n), m)
			}
		}
	}
}

// P3.1: the first cell of a name that stands twice; what is not there; cells that no manifest may have are found, too.
func TestFind(t *testing.T) {
	l := []api.Cell{{Name: "a", At: 5}, {Name: "b", At: 0}, {Name: "a", At: 7}, {Name: "ab", At: 9}, {Name: "A", At: 11}, {Name: "b", At: 13}, {Name: "far", At: -4}}
	for _, x := range []struct {
		name string
		at   int
		is   bool
	}{
		{"a", 5, true}, {"b", 0, true}, {"ab", 9, true}, {"A", 11, true}, {"far", -4, true},
		{"", 0, false}, {"c", 0, false}, {"B", 0, false}, {"abc", 0, false}, {"a ", 0, false}, {"a\x00", 0, false},
	} {
		if at, is := image.Find(l, x.name); at != x.at || is != x.is {
			t.Errorf("Find(%q) = %d, %v", x.name, at, is)
		}
	}
	if at, is := image.Find(append(l, api.Cell{At: 3}), ""); at != 3 || !is {
		t.Errorf("Find of an empty name that is there: %d, %v", at, is)
	}
	for _, none := range [][]api.Cell{nil, {}} {
		if at, is := image.Find(none, "a"); at != 0 || is {
			t.Errorf("Find in no cells: %d, %v", at, is)
		}
	}
	if at, is := image.Find(l[:0], "a"); at != 0 || is {
		t.Errorf("Find in spare room: %d, %v", at, is)
	}
	if at, is := image.Find(manyCells(1000), manyCells(1000)[999].Name); at != 16000-999 || !is {
		t.Errorf("Find of the last of many: %d, %v", at, is)
	}
}

// P3.2: bytes, written by hand.
func TestBytesByHand(t *testing.T) {
	for _, x := range []struct {
		code []uint16
		m    api.Manifest
		want string
	}{
		{nil, api.Manifest{}, "MSK1" + strings.Repeat("\x00", 20) + "\x00\x00\x00"},
		{[]uint16{}, api.Manifest{Secrets: []api.Cell{}, Publics: []api.Cell{}, Outs: []api.Cell{}}, "MSK1" + strings.Repeat("\x00", 23)},
		{[]uint16{0x2105, 0xbe00}, api.Manifest{}, "MSK1" + strings.Repeat("\x00", 16) + "\x02\x00\x00\x00" + "\x05\x21\x00\xbe" + "\x00\x00\x00"},
		{
			[]uint16{0x1234, 0x00ff, 0xff00},
			api.Manifest{
				Order: 1, Steps: 0x01020304, Random: 0x7fffffff, Words: 0x3e80,
				Secrets: []api.Cell{{Name: "a", At: 0}, {Name: "key", At: 0x102}},
				Publics: []api.Cell{{Name: "p", At: 16000}},
				Outs:    []api.Cell{{Name: "o1", At: 1}, {Name: "o2", At: 2}, {Name: "o1", At: 3}},
			},
			"MSK1" + "\x01\x00\x00\x00" + "\x04\x03\x02\x01" + "\xff\xff\xff\x7f" + "\x80\x3e\x00\x00" + "\x03\x00\x00\x00" +
				"\x34\x12" + "\xff\x00" + "\x00\xff" +
				"\x02" + "\x01a\x00\x00\x00\x00" + "\x03key\x02\x01\x00\x00" +
				"\x01" + "\x01p\x80\x3e\x00\x00" +
				"\x03" + "\x02o1\x01\x00\x00\x00" + "\x02o2\x02\x00\x00\x00" + "\x02o1\x03\x00\x00\x00",
		},
	} {
		if b, e := image.Put(x.code, x.m); string(b) != x.want || e != api.OK {
			t.Errorf("Put(%x, %+v) = %x, %v", x.code, x.m, b, e)
		}
		if code, m, e := image.Take([]byte(x.want)); !slices.Equal(code, x.code) || !same(m, x.m) || e != api.OK {
			t.Errorf("Take(%x) = %x, %+v, %v", x.want, code, m, e)
		}
	}
}

// P3.3: as many halfwords as there may be, and one beyond; which error is first is looked at by cannot.
func TestPutOfManyHalfwords(t *testing.T) {
	for _, n := range []int{1, 255, 256, 257, 32768, 59999, 60000} {
		fine(t, strconv.Itoa(n)+" halfwords", rising(n), full())
	}
	for _, n := range []int{60001, 60002, 65536, 65537, 1 << 20} {
		for _, m := range []api.Manifest{{}, some(), full()} {
			if b, e := image.Put(rising(n), m); len(b) != 0 || e != api.ErrLong {
				t.Errorf("Put of %d halfwords: %d bytes, %v", n, len(b), e)
			}
		}
	}
}

// P3.3: every beginning of an image's bytes ends too soon, those of the mark among them.
func TestTakeOfBeginnings(t *testing.T) {
	refused(t, "nil", nil, api.ErrShort)
	for _, s := range []string{"", "M", "MS", "MSK", "MSK1"} {
		refused(t, s, []byte(s), api.ErrShort)
	}
	for _, x := range []struct {
		code []uint16
		m    api.Manifest
	}{{nil, api.Manifest{}}, {[]uint16{1, 2, 3}, api.Manifest{}}, {nil, some()}, {rising(40), some()}, {rising(7), full()}} {
		b := bytesOf(x.code, x.m)
		for n := range b {
			refused(t, "the first "+strconv.Itoa(n)+" bytes", b[:n], api.ErrShort)
		}
		fine(t, "all bytes", x.code, x.m)
	}
	b := bytesOf(rising(60000), some())
	for _, n := range []int{23, 24, 25, 24 + 2*60000 - 1, 24 + 2*60000, len(b) - 1} {
		refused(t, "the first "+strconv.Itoa(n)+" bytes", b[:n], api.ErrShort)
	}
}

// P3.3: what begins otherwise has not the form, however short it is, and whatever else is wrong.
func TestTakeOfOtherBeginnings(t *testing.T) {
	for _, s := range []string{
		"\x00", "m", "K", "1", " ", "MM", "Ms", "SK", "MSk", "MS1", "MKS", "MSK0", "MSK2", "MSKI", "msk1", "1KSM", "XSK1", "MXK1", "MSX1", " MSK1", "\x00MSK1",
	} {
		refused(t, s, []byte(s), api.ErrForm)
		refused(t, s+" and more", append([]byte(s), bytesOf(nil, some())...), api.ErrForm)
	}
	for k := range 4 {
		for _, b := range [][]byte{bytesOf(nil, api.Manifest{}), bytesOf([]uint16{1}, some()), layOut(60001, nil, some()), layOut(9, nil, api.Manifest{})} {
			for bit := range 8 {
				wrong := slices.Clone(b)
				wrong[k] ^= 1 << bit
				refused(t, "byte "+strconv.Itoa(k)+" otherwise", wrong, api.ErrForm)
				refused(t, "byte "+strconv.Itoa(k)+" otherwise, then the end", wrong[:k+1], api.ErrForm)
				refused(t, "byte "+strconv.Itoa(k)+" otherwise, and a byte left", append(wrong, 0), api.ErrForm)
			}
		}
	}
}

// P3.3: too many halfwords are told as soon as their number is there, whatever is behind it, and not ahead of it.
func TestTakeOfTooManyHalfwords(t *testing.T) {
	for _, n := range []uint32{60001, 60002, 65536, 65537, 1 << 24, 1<<31 - 1, 1 << 31, 1<<31 + 1, 1<<32 - 1} {
		what := strconv.FormatUint(uint64(n), 10) + " halfwords"
		for _, m := range []api.Manifest{{}, some(), full(), {Order: -1}, {Words: 16001}, {Steps: 1 << 31, Outs: manyCells(65)}} {
			b := layOut(n, nil, m)
			refused(t, what, b, api.ErrLong)
			refused(t, what+", then the end", b[:24], api.ErrLong)
			refused(t, what+", then one byte", b[:25], api.ErrLong)
			refused(t, what+", a byte of it missing", b[:23], api.ErrShort)
		}
	}
	refused(t, "60001 halfwords that are there", bytesOf(rising(60001), some()), api.ErrLong)
	refused(t, "60000 halfwords that are not there", layOut(60000, nil, some()), api.ErrShort)
	fine(t, "60000 halfwords", rising(60000), some())
}

// P3.3: bytes that are left.
func TestTakeOfBytesLeft(t *testing.T) {
	for _, m := range []api.Manifest{{}, some(), full(), {Order: 3}} {
		for _, code := range [][]uint16{nil, {1, 2, 3}} {
			b := bytesOf(code, m)
			for _, more := range []string{"\x00", "\x01", "\xff", "\x00\x00", "MSK1", "MSK", strings.Repeat("\x00", 100000)} {
				refused(t, "bytes left", append(slices.Clone(b), more...), api.ErrForm)
			}
			refused(t, "two images", append(slices.Clone(b), b...), api.ErrForm)
		}
	}
}

// P3.3: a manifest that can't be is told behind all: where the bytes end too soon, that is told. By hand, since lists and names of such lengths have room in one byte.
func TestTakeOfManifestsThatCannotBe(t *testing.T) {
	const noughts = "\x00\x00\x00\x00\x00\x00\x00\x00\x00\x00\x00\x00\x00\x00\x00\x00\x00\x00\x00\x00"
	for _, s := range []string{
		"MSK1" + "\x00\x00\x00\x80" + noughts[4:] + "\x00\x00\x00",                          // Order 2^31
		"MSK1" + "\xff\xff\xff\xff" + noughts[4:] + "\x00\x00\x00",                          // Order 2^32 - 1
		"MSK1" + noughts[:4] + "\x00\x00\x00\x80" + noughts[8:] + "\x00\x00\x00",            // Steps
		"MSK1" + noughts[:8] + "\x00\x00\x00\x80" + noughts[12:] + "\x00\x00\x00",           // Random
		"MSK1" + noughts[:12] + "\x81\x3e\x00\x00" + noughts[16:] + "\x00\x00\x00",          // Words 16001
		"MSK1" + noughts[:12] + "\x00\x00\x00\x80" + noughts[16:] + "\x00\x00\x00",          // Words 2^31
		"MSK1" + noughts + "\x01\x00\x00\x00\x00\x00" + "\x00\x00",                          // a name of no bytes
		"MSK1" + noughts + "\x00" + "\x01\x01a\x81\x3e\x00\x00" + "\x00",                    // At 16001
		"MSK1" + noughts + "\x00\x00" + "\x01\x01a\xff\xff\xff\xff",                         // At 2^32 - 1
		"MSK1" + noughts + "\x00\x00" + "\x01\x01a\x00\x00\x00\x80",                         // At 2^31
		"MSK1" + noughts + "\x01\x21" + strings.Repeat("a", 33) + noughts[:4] + "\x00\x00",  // a name of 33 bytes
		"MSK1" + noughts + "\x00\x01\xff" + strings.Repeat("a", 255) + noughts[:4] + "\x00", // a name of 255 bytes
		"MSK1" + noughts + "\x41" + strings.Repeat("\x01a"+noughts[:4], 65) + "\x00\x00",    // 65 cells
		"MSK1" + noughts + "\x00\x00" + "\xff" + strings.Repeat("\x01a"+noughts[:4], 255),   // 255 cells
	} {
		b := []byte(s)
		refused(t, s, b, api.ErrForm)
		refused(t, s+" and a byte", append(slices.Clone(b), 1), api.ErrForm)
		for n := range b {
			refused(t, s+", its first "+strconv.Itoa(n), b[:n], api.ErrShort)
		}
	}
}

// P3.4: the lowest byte first; a last byte alone has 0 above.
func TestWords(t *testing.T) {
	for _, x := range []struct {
		b    []byte
		want []uint16
	}{
		{nil, nil}, {[]byte{}, nil},
		{[]byte{0}, []uint16{0}}, {[]byte{1}, []uint16{1}}, {[]byte{0xff}, []uint16{0xff}}, {[]byte{0x80}, []uint16{0x80}},
		{[]byte{0, 0}, []uint16{0}}, {[]byte{0x05, 0x21}, []uint16{0x2105}}, {[]byte{0xff, 0xff}, []uint16{0xffff}}, {[]byte{0, 0x80}, []uint16{0x8000}},
		{[]byte{0x05, 0x21, 0xfe}, []uint16{0x2105, 0xfe}}, {[]byte{1, 2, 0}, []uint16{0x201, 0}},
		{[]byte{1, 2, 3, 4}, []uint16{0x201, 0x403}}, {[]byte{1, 2, 3, 4, 5}, []uint16{0x201, 0x403, 5}},
	} {
		if l := image.Words(x.b); !slices.Equal(l, x.want) {
			t.Errorf("Words(%x) = %x, not %x", x.b, l, x.want)
		}
	}
	spare := []byte{1, 2, 3, 0xee}
	if l := image.Words(spare[:3]); !slices.Equal(l, []uint16{0x201, 3}) {
		t.Errorf("Words reads spare room: %x", l)
	}
	for _, n := range []int{131072, 262143, 262144} {
		b := make([]byte, n)
		for k := range b {
			b[k] = byte(k ^ k>>8)
		}
		l := image.Words(b)
		if len(l) != (n+1)/2 {
			t.Fatalf("Words of %d bytes: %d", n, len(l))
		}
		for k, h := range l {
			want := uint16(b[2*k])
			if 2*k+1 < n {
				want |= uint16(b[2*k+1]) << 8
			}
			if h != want {
				t.Fatalf("Words of %d bytes: at %d %04x, not %04x", n, k, h, want)
			}
		}
	}
}

// anyManifest is one that can be, of any numbers and cells.
func anyManifest(r *rand.Rand) api.Manifest {
	m := api.Manifest{Order: int(r.Int31()), Steps: int(r.Int31()), Random: int(r.Int31()), Words: r.Intn(16001)}
	for _, s := range sorts {
		l := make([]api.Cell, r.Intn(65))
		for k := range l {
			name := make([]byte, 1+r.Intn(32))
			r.Read(name)
			l[k] = api.Cell{Name: string(name), At: r.Intn(16001)}
		}
		*s.of(&m) = l
	}
	return m
}

// P3.5: Take of Put is both; Put of what Take takes is the bytes, also of bytes with one of them another one.
func TestThereAndBack(t *testing.T) {
	r := rand.New(rand.NewSource(3))
	taken := 0
	for range 300 {
		code, m := make([]uint16, r.Intn(100)), anyManifest(r)
		for k := range code {
			code[k] = uint16(r.Uint32())
		}
		b, e := image.Put(code, m)
		if e != api.OK {
			t.Fatalf("Put: %v", e)
		}
		back, n, e := image.Take(b)
		if !slices.Equal(back, code) || !same(n, m) || e != api.OK {
			t.Fatalf("Take of Put: %v, %+v, not %+v", e, n, m)
		}
		for range 50 {
			other := slices.Clone(b)
			other[4+r.Intn(len(b)-4)] ^= byte(1 + r.Intn(255))
			c, n, e := image.Take(other)
			if e != api.OK {
				continue
			}
			taken++
			if again, e := image.Put(c, n); !bytes.Equal(again, other) || e != api.OK {
				t.Fatalf("Put of Take: %v", e)
			}
		}
	}
	if taken < 1000 {
		t.Errorf("only %d changed bytes were an image", taken)
	}
}

// P3.5: of short bytes behind a mark, whatever they are, either there is an image whose bytes they are, or an error beside nothing.
func TestTakeOfAnyBytes(t *testing.T) {
	r := rand.New(rand.NewSource(8))
	for range 20000 {
		b := append([]byte("MSK1"), make([]byte, r.Intn(60))...)
		for k := 4; k < len(b); k++ {
			if r.Intn(3) == 0 {
				b[k] = byte(r.Intn(4))
			}
		}
		code, m, e := image.Take(b)
		if e != api.OK {
			refused(t, "any bytes", b, e)
			if e != api.ErrShort && e != api.ErrForm && e != api.ErrLong {
				t.Errorf("Take(%x): %v", b, e)
			}
			continue
		}
		if again, e := image.Put(code, m); !bytes.Equal(again, b) || e != api.OK {
			t.Errorf("Put(Take(%x)) = %x, %v", b, again, e)
		}
	}
}

// roomy is a copy of l with spare room behind it, filled with spare.
func roomy[T any](l []T, spare T) []T {
	out := append(slices.Clone(l), spare, spare, spare)
	return out[:len(l)]
}

// What is handed in is not changed, its spare room included.
func TestNothingHandedInIsChanged(t *testing.T) {
	noCell := api.Cell{Name: "spare", At: 77}
	for _, base := range []api.Manifest{{}, some(), full(), {Order: -1, Secrets: some().Secrets}} {
		code, m := roomy(rising(9), 0xeeee), base
		for _, s := range sorts {
			*s.of(&m) = roomy(*s.of(&base), noCell)
		}
		b := roomy(bytesOf(code, base), 0xee)
		bytesThere := slices.Clone(b[:cap(b)])
		image.Can(m)
		image.Put(code, m)
		image.Take(b)
		image.Take(b[:len(b)-1])
		image.Words(b)
		for _, s := range sorts {
			image.Find(*s.of(&m), "key")
			l := *s.of(&m)
			if want := append(slices.Clone(*s.of(&base)), noCell, noCell, noCell); !slices.Equal(l[:len(want)], want) {
				t.Errorf("%s were changed: %+v", s.name, l[:cap(l)])
			}
		}
		if want := append(rising(9), 0xeeee, 0xeeee, 0xeeee); !slices.Equal(code[:len(want)], want) {
			t.Errorf("the code was changed: %x", code)
		}
		if !bytes.Equal(b[:cap(b)], bytesThere) {
			t.Errorf("the bytes were changed")
		}
	}
}

// spoil writes over a list, its spare room included.
func spoil[T any](l []T, with T) {
	l = l[:cap(l)]
	for k := range l {
		l[k] = with
	}
}

// Nothing of an answer is shared: not with what was handed in, not with another answer, and not with another list of the same one.
func TestAnswersAreNewMemory(t *testing.T) {
	code, m := rising(33), some()
	want := bytesOf(code, m)
	first, _ := image.Put(code, m)
	second, _ := image.Put(code, m)
	spoil(first, 0xee)
	if third, _ := image.Put(code, m); !bytes.Equal(second, want) || !bytes.Equal(third, want) {
		t.Error("Put's answers are shared")
	}
	if !slices.Equal(code, rising(33)) || !reflect.DeepEqual(m, some()) {
		t.Error("Put's answer is shared with what was handed in")
	}

	halves := image.Words(want)
	spoil(halves, 0xeeee)
	if !bytes.Equal(want, bytesOf(code, m)) || slices.Equal(image.Words(want), halves) {
		t.Error("Words' answer is shared")
	}

	for k := range 4 {
		b := slices.Clone(want)
		c, n, _ := image.Take(b)
		c2, n2, _ := image.Take(b)
		spoil(b, 0xee)
		if !slices.Equal(c, code) || !same(n, m) {
			t.Fatal("Take's answer is shared with the bytes")
		}
		lists := []func(){func() { spoil(c, 0xeeee) }}
		for _, s := range sorts {
			lists = append(lists, func() { spoil(*s.of(&n), api.Cell{Name: "spoilt", At: 1}) })
		}
		lists[k]()
		if k != 0 && !slices.Equal(c, code) {
			t.Error("Take's code is shared with a list of cells")
		}
		for i, s := range sorts {
			if i+1 != k && !slices.Equal(*s.of(&n), *s.of(&m)) {
				t.Errorf("Take's %s are shared with another list", s.name)
			}
		}
		if !slices.Equal(c2, code) || !same(n2, m) {
			t.Error("Take's answers are shared")
		}
	}
}

// Spare room of one list is not another list: each may be added to.
func TestAnswersMayBeAddedTo(t *testing.T) {
	m := some()
	c, n, _ := image.Take(bytesOf(rising(3), m))
	c = append(c, 1, 2, 3, 4, 5, 6, 7, 8)
	for _, s := range sorts {
		*s.of(&n) = append(*s.of(&n), manyCells(5)...)
	}
	if !slices.Equal(c[:3], rising(3)) {
		t.Errorf("the code is %x", c[:3])
	}
	for _, s := range sorts {
		was := *s.of(&m)
		if l := *s.of(&n); !slices.Equal(l[:len(was)], was) || !slices.Equal(l[len(was):], manyCells(5)) {
			t.Errorf("%s are %+v", s.name, l)
		}
	}
}
