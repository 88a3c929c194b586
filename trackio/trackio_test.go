package trackio_test

import (
	"bytes"
	"encoding/binary"
	"encoding/hex"
	"math"
	"math/rand/v2"
	"reflect"
	"slices"
	"strings"
	"testing"

	"chicane/api"
	"chicane/track"
	"chicane/trackio"
)

const (
	one      = api.One
	far      = api.MaxExtent / 2 // the greatest coordinate of a track's points
	top      = api.MaxHeight / 2
	greatest = api.Fx(math.MaxInt64)
	least    = api.Fx(math.MinInt64)
)

// parts makes a place of parts.
func parts(x, y api.Fx) api.V2 { return api.V2{X: x, Y: y} }

// whole makes a place of integers.
func whole(x, y api.Fx) api.V2 { return parts(x*one, y*one) }

// level makes a valid track of so many cells, from (0, 0) on, with its start in the first cell's middle.
func level(cols, rows int) api.Track {
	return api.Track{
		Rate: 100, Cell: 8 * one, Cols: cols, Rows: rows,
		Heights: make([]api.Fx, (cols+1)*(rows+1)), Ground: make([]int, cols*rows), Kinds: []api.Kind{{Grip: one}},
		Line:  []api.V2{whole(1, 1), whole(7, 1), whole(7, 7)},
		Gates: []api.Gate{{A: whole(3, 2), B: whole(3, 6)}},
		Start: whole(4, 4), Laps: 3,
	}
}

// mixed is a valid track with some of everything, of which no two numbers are equal, so that none stands for another.
func mixed() api.Track {
	return api.Track{
		Rate: 0x0102, Cell: 7*one + 1, Cols: 2, Rows: 1, Corner: parts(-3*one-2, 5*one+3),
		Heights: []api.Fx{4, -5, 6*one + 6, -7, 8, one + 9}, Ground: []int{2, 1},
		Kinds: []api.Kind{{Grip: one / 3, Drag: one / 5, Off: true}, {Grip: one + 10, Drag: 11}, {Grip: 12, Drag: one - 13, Off: true}},
		Line:  []api.V2{parts(14, -15), parts(16*one, 17*one), parts(-18*one, 19), parts(20, 21)},
		Rails: [][]api.V2{
			{parts(100*one, 22), parts(101*one, 23), parts(102*one, -24)},
			{parts(103*one, 25), parts(104*one+26, 27)},
		},
		Gates: []api.Gate{{A: parts(28, 29), B: parts(30, -31), Split: true}, {A: parts(32, 33), B: parts(-34, 35)}, {A: parts(36, 37), B: parts(38, 39), Split: true}},
		Start: parts(one+40, 6*one+41), Head: 0x89abcdef, Laps: 42,
	}
}

// row makes points along X, one behind the other, far off the start.
func row(n int) []api.V2 {
	l := []api.V2{}
	for i := range n {
		l = append(l, whole(api.Fx(i)+1000, 1000))
	}
	return l
}

// repeated makes a list of so many lists of points.
func repeated(n, points int) [][]api.V2 {
	l := [][]api.V2{}
	for range n {
		l = append(l, row(points))
	}
	return l
}

// gates makes so many gates.
func gates(n int) []api.Gate {
	l := []api.Gate{}
	for i := range n {
		l = append(l, api.Gate{A: whole(api.Fx(i), 2), B: whole(3, -6), Split: i%3 == 0})
	}
	return l
}

// full is a valid track with as much of everything as is allowed.
func full() api.Track {
	t := level(64, 64)
	t.Rate, t.Cell, t.Laps, t.Head = 1024, 64*one, 100, math.MaxUint32
	t.Line, t.Rails, t.Gates = row(64), repeated(16, 64), gates(16)
	for i := range t.Rails {
		for k := range t.Rails[i] {
			t.Rails[i][k] = parts(far-api.Fx(k), -far+api.Fx(i))
		}
	}
	for i := range t.Heights {
		t.Heights[i] = api.Fx(i)
	}
	for i := range t.Ground {
		t.Ground[i] = i * 7 % 8
	}
	t.Kinds = make([]api.Kind, 8)
	for i := range t.Kinds {
		t.Kinds[i] = api.Kind{Grip: api.Fx(i), Drag: api.Fx(2 * i), Off: i%2 == 0}
	}
	return t
}

// samples are valid tracks.
func samples() []api.Track {
	return []api.Track{level(1, 1), level(1, 3), level(3, 2), mixed(), full()}
}

// spare is a list with an element behind its end.
func spare[E any](l []E, e E) []E {
	return append(slices.Clone(l), e)[:len(l)]
}

// copied is a track with its own memory.
func copied(t api.Track) api.Track {
	t.Heights, t.Ground, t.Kinds = slices.Clone(t.Heights), slices.Clone(t.Ground), slices.Clone(t.Kinds)
	t.Line, t.Gates, t.Rails = slices.Clone(t.Line), slices.Clone(t.Gates), slices.Clone(t.Rails)
	for i, l := range t.Rails {
		t.Rails[i] = slices.Clone(l)
	}
	return t
}

// same tells whether tracks are equal; an empty list is like none.
func same(a, b api.Track) bool {
	plain := func(t api.Track) api.Track {
		t = copied(t)
		if len(t.Rails) == 0 {
			t.Rails = nil
		}
		return t
	}
	return reflect.DeepEqual(plain(a), plain(b))
}

// sort is a sort of word.
type sort string

const (
	mark   sort = "mark"
	number sort = "number"
	count  sort = "count"
	flag   sort = "flag"
	head   sort = "head" // the number that is an angle
)

// word is a word of an encoding: where it begins and ends, and the bounds of a count.
type word struct {
	sort      sort
	at, end   int
	low, high int
}

// sheet is bytes, written by the library, and their words.
type sheet struct {
	b     []byte
	words []word
}

// noted notes a word that was written from a position on.
func (s *sheet) noted(w sort, at, low, high int) {
	s.words = append(s.words, word{w, at, len(s.b), low, high})
}

func (s *sheet) count(low, high, n int) {
	at := len(s.b)
	s.b = binary.LittleEndian.AppendUint16(s.b, uint16(n))
	s.noted(count, at, low, high)
}

func (s *sheet) numbers(l ...api.Fx) {
	for _, n := range l {
		at := len(s.b)
		s.b = binary.LittleEndian.AppendUint64(s.b, uint64(n))
		s.noted(number, at, 0, 0)
	}
}

func (s *sheet) places(l ...api.V2) {
	for _, p := range l {
		s.numbers(p.X, p.Y)
	}
}

func (s *sheet) flag(yes bool) {
	at := len(s.b)
	s.b = append(s.b, 0)
	if yes {
		s.b[at] = 1
	}
	s.noted(flag, at, 0, 0)
}

// written is the chapter's encoding, of any track, with a number for Head that may be no angle.
func written(t api.Track, angle int64) *sheet {
	s := &sheet{b: []byte("CHTR")}
	s.noted(mark, 0, 0, 0)
	s.count(60, 1024, t.Rate)
	s.numbers(t.Cell)
	s.count(1, 64, t.Cols)
	s.count(1, 64, t.Rows)
	s.places(t.Corner)
	s.numbers(t.Heights...)
	for _, n := range t.Ground {
		s.count(0, 7, n)
	}
	s.count(1, 8, len(t.Kinds))
	for _, k := range t.Kinds {
		s.numbers(k.Grip, k.Drag)
		s.flag(k.Off)
	}
	s.count(3, 64, len(t.Line))
	s.places(t.Line...)
	s.count(0, 16, len(t.Rails))
	for _, l := range t.Rails {
		s.count(2, 64, len(l))
		s.places(l...)
	}
	s.count(1, 16, len(t.Gates))
	for _, g := range t.Gates {
		s.places(g.A, g.B)
		s.flag(g.Split)
	}
	s.places(t.Start)
	s.numbers(api.Fx(angle))
	s.words[len(s.words)-1].sort = head
	s.count(1, 100, t.Laps)
	return s
}

// encoding is the chapter's encoding of a track.
func encoding(t api.Track) *sheet { return written(t, int64(t.Head)) }

// found is an error and its position.
type found struct {
	err api.Errno
	at  int
}

// reading is another reading of bytes, which panics with the first error.
type reading struct {
	b  []byte
	at int
}

func (r *reading) word(size int) []byte {
	if len(r.b) < r.at+size {
		panic(found{api.ErrShort, len(r.b)})
	}
	r.at += size
	return r.b[r.at-size : r.at]
}

func (r *reading) count(low, high int) int {
	n := int(binary.LittleEndian.Uint16(r.word(2)))
	if n < low || n > high {
		panic(found{api.ErrCount, r.at - 2})
	}
	return n
}

func (r *reading) number() api.Fx { return api.Fx(binary.LittleEndian.Uint64(r.word(8))) }

func (r *reading) flag() bool {
	switch r.word(1)[0] {
	case 0:
		return false
	case 1:
		return true
	}
	panic(found{api.ErrFlag, r.at - 1})
}

func (r *reading) places(n int) []api.V2 {
	l := make([]api.V2, n)
	for i := range l {
		l[i].X = r.number()
		l[i].Y = r.number()
	}
	return l
}

func (r *reading) ground(t *api.Track) {
	t.Cell = r.number()
	t.Cols = r.count(1, 64)
	t.Rows = r.count(1, 64)
	t.Corner = r.places(1)[0]
	for range (t.Cols + 1) * (t.Rows + 1) {
		t.Heights = append(t.Heights, r.number())
	}
	for range t.Cols * t.Rows {
		t.Ground = append(t.Ground, r.count(0, 7))
	}
	for range r.count(1, 8) {
		k := api.Kind{Grip: r.number()}
		k.Drag = r.number()
		k.Off = r.flag()
		t.Kinds = append(t.Kinds, k)
	}
}

func (r *reading) track() api.Track {
	t := api.Track{}
	if string(r.word(4)) != "CHTR" {
		panic(found{api.ErrMagic, 0})
	}
	t.Rate = r.count(60, 1024)
	r.ground(&t)
	t.Line = r.places(r.count(3, 64))
	for range r.count(0, 16) {
		t.Rails = append(t.Rails, r.places(r.count(2, 64)))
	}
	for range r.count(1, 16) {
		l := r.places(2)
		t.Gates = append(t.Gates, api.Gate{A: l[0], B: l[1], Split: r.flag()})
	}
	t.Start = r.places(1)[0]
	n := r.number()
	if n < 0 || n > 1<<32-1 {
		panic(found{api.ErrRange, r.at - 8})
	}
	t.Head = api.Turn(n)
	t.Laps = r.count(1, 100)
	return t
}

// reckon reckons what is to be decoded.
func reckon(b []byte) (t api.Track, f found) {
	defer func() {
		if e := recover(); e != nil {
			t, f = api.Track{}, e.(found)
		}
	}()
	r := reading{b: b}
	t = r.track()
	if r.at < len(b) {
		panic(found{api.ErrMore, r.at})
	}
	if err, _ := track.Right(t); err != api.OK {
		panic(found{err, len(b)})
	}
	return t, found{}
}

// holdFault holds an error and its position, and that there is no track beside it.
func holdFault(t *testing.T, b []byte, want api.Errno, at int) {
	t.Helper()
	tr, err, where := trackio.Decode(b)
	if err != want || where != at {
		t.Fatalf("Decode(%x) = %d, %d, not %d, %d", b[:min(len(b), 1000)], err, where, want, at)
	}
	if !reflect.DeepEqual(tr, api.Track{}) {
		t.Fatalf("Decode(%x) tells a track beside the error %d: %v", b[:min(len(b), 1000)], err, tr)
	}
}

// holdTrack holds that bytes are those of a track, both ways.
func holdTrack(t *testing.T, b []byte, want api.Track) {
	t.Helper()
	got, err, at := trackio.Decode(b)
	if err != api.OK || at != 0 || !same(got, want) {
		t.Fatalf("Decode(%x) = %v, %d, %d, not %v", b[:min(len(b), 1000)], got, err, at, want)
	}
	for _, tr := range []api.Track{got, want} {
		if again, err := trackio.Encode(tr); err != api.OK || !bytes.Equal(again, b) {
			t.Fatalf("Encode(%v) = %x, %d, not %x", tr, again[:min(len(again), 1000)], err, b[:min(len(b), 1000)])
		}
	}
}

// holdReckoned holds bytes as another reading reads them, and that they stay as they are.
func holdReckoned(t *testing.T, b []byte) found {
	t.Helper()
	before := slices.Clone(b)
	want, f := reckon(b)
	if f.err == api.OK {
		holdTrack(t, b, want)
	} else {
		holdFault(t, b, f.err, f.at)
	}
	if !bytes.Equal(before, b) {
		t.Fatalf("the bytes %x are now %x", before, b)
	}
	return f
}

// holdWrong holds that a track has no bytes.
func holdWrong(t *testing.T, tr api.Track, want api.Errno) {
	t.Helper()
	if b, err := trackio.Encode(tr); err != want || len(b) != 0 {
		t.Fatalf("Encode(%v) = %x, %d, not %d", tr, b[:min(len(b), 1000)], err, want)
	}
}

// poked is bytes with others from a position on.
func poked(b []byte, at int, with ...byte) []byte {
	b = slices.Clone(b)
	copy(b[at:], with)
	return b
}

// pokedCount is bytes with another count at a position.
func pokedCount(b []byte, at, n int) []byte { return poked(b, at, byte(n), byte(n>>8)) }

// pokedNumber is bytes with another number at a position.
func pokedNumber(b []byte, at int, n int64) []byte {
	return poked(b, at, binary.LittleEndian.AppendUint64(nil, uint64(n))...)
}

// spoilt is bytes with a word that may not be, and the error of it: of a number that is no angle, that of track.Right at the end of the bytes.
func spoilt(b []byte, w word) ([]byte, found) {
	switch w.sort {
	case mark:
		return poked(b, w.at, 'c'), found{api.ErrMagic, w.at}
	case count:
		return pokedCount(b, w.at, w.high+1), found{api.ErrCount, w.at}
	case flag:
		return poked(b, w.at, 2), found{api.ErrFlag, w.at}
	case head:
		return pokedNumber(b, w.at, 1<<32), found{api.ErrRange, w.at}
	}
	return pokedNumber(b, w.at, math.MinInt64), found{api.ErrRange, len(b)}
}

// Promise 15.1: the chapter's example, and each word of a small track, by hand.
func TestEncode(t *testing.T) {
	b, err := trackio.Encode(level(1, 1))
	if err != api.OK || string(b[:5]) != "CHTR\x64" {
		t.Fatalf("%x, %d", b, err)
	}
	tr := level(1, 1)
	tr.Rate, tr.Corner, tr.Heights = 0x0304, parts(-1, 0x0102030405), []api.Fx{1, -2, 3, 0x1_23456789}
	tr.Kinds[0] = api.Kind{Grip: 2 * one, Drag: one / 4, Off: true}
	tr.Rails = [][]api.V2{{whole(1000, 2), whole(1000, 3)}}
	tr.Gates[0].Split = true
	tr.Head, tr.Laps = 0xfedcba98, 100
	tr.Start = parts(1, 0x0102030405)
	hand := []string{
		"43485452", "0403", "0000000008000000", "0100", "0100", "ffffffffffffffff", "0504030201000000",
		"0100000000000000", "feffffffffffffff", "0300000000000000", "8967452301000000", "0000",
		"0100", "0000000002000000", "0000004000000000", "01",
		"0300", "0000000001000000", "0000000001000000", "0000000007000000", "0000000001000000", "0000000007000000", "0000000007000000",
		"0100", "0200", "00000000e8030000", "0000000002000000", "00000000e8030000", "0000000003000000",
		"0100", "0000000003000000", "0000000002000000", "0000000003000000", "0000000006000000", "01",
		"0100000000000000", "0504030201000000", "98badcfe00000000", "6400",
	}
	want, _ := hex.DecodeString(strings.Join(hand, ""))
	holdTrack(t, want, tr)
}

// Promises 15.1 and 15.3: valid tracks of every size have the bytes that the library writes, and come back from them.
func TestThereAndBack(t *testing.T) {
	for _, tr := range samples() {
		if err, _ := track.Right(tr); err != api.OK {
			t.Fatalf("a sample has the error %d", err)
		}
		holdTrack(t, encoding(tr).b, tr)
	}
	for n := 1; n <= 64; n++ {
		for _, tr := range []api.Track{level(n, 1), level(1, n), level(n, 65-n)} {
			for i := range tr.Heights {
				tr.Heights[i] = api.Fx(i*i) - 7
			}
			holdTrack(t, encoding(tr).b, tr)
		}
	}
}

// Promise 15.2: the chapter's examples.
func TestDecode(t *testing.T) {
	holdFault(t, nil, api.ErrShort, 0)
	holdFault(t, []byte{}, api.ErrShort, 0)
	for _, tr := range samples() {
		holdFault(t, encoding(tr).b[:50], api.ErrShort, 50)
	}
	slow := level(1, 1)
	slow.Rate = 30
	holdFault(t, encoding(slow).b, api.ErrCount, 4)
	side := level(1, 1)
	side.Rails = [][]api.V2{{whole(0, 5), whole(8, 5)}} // the start is 1 behind it
	b := encoding(side).b
	holdFault(t, b, api.ErrSide, len(b))
}

// Promise 15.2: an encoding that is cut off behind any of its bytes is too short.
func TestDecodeCut(t *testing.T) {
	for _, tr := range samples()[:4] {
		b := encoding(tr).b
		for n := range b {
			holdFault(t, b[:n], api.ErrShort, n)
			holdFault(t, slices.Clip(b[:n]), api.ErrShort, n)
		}
	}
	b := encoding(full()).b
	for n := 0; n < len(b); n += 37 {
		holdFault(t, b[:n], api.ErrShort, n)
	}
	holdFault(t, b[:len(b)-1], api.ErrShort, len(b)-1)
}

// Promise 15.2: bytes behind the end, of a track that is valid and of one that is not.
func TestDecodeMore(t *testing.T) {
	bad := mixed()
	bad.Gates[1].B = bad.Gates[1].A
	for _, tr := range append(samples(), bad) {
		b := encoding(tr).b
		for _, more := range [][]byte{{0}, {1}, {255}, {0, 0}, []byte("CHTR"), make([]byte, 1000), b} {
			holdFault(t, append(slices.Clone(b), more...), api.ErrMore, len(b))
		}
	}
}

// Promise 15.2: a mark that is another one, by each byte and each bit, whole or too short, with and without what follows.
func TestDecodeMark(t *testing.T) {
	b := encoding(mixed()).b
	for i := range 4 {
		for bit := range 8 {
			other := poked(b, i, b[i]^1<<bit)
			holdFault(t, other, api.ErrMagic, 0)
			holdFault(t, other[:4], api.ErrMagic, 0)
			holdFault(t, other[:3], api.ErrShort, 3)
		}
	}
	for _, s := range []string{"CHCA", "RTHC", "chtr", "\x00\x00\x00\x00", "CHT\x00"} {
		holdFault(t, poked(b, 0, []byte(s)...), api.ErrMagic, 0)
		holdFault(t, []byte(s), api.ErrMagic, 0)
	}
	holdFault(t, append([]byte{0}, b...), api.ErrMagic, 0)
	holdFault(t, b[1:], api.ErrMagic, 0)
	holdFault(t, []byte("CHTR"), api.ErrShort, 4)
}

// counts are values of a count, among them all of the ranges and about them.
func counts(low, high int) []int {
	l := []int{0, 1, 2, 59, 60, 61, 255, 256, 257, 1023, 1024, 1025, 1 << 15, 1<<16 - 1, low + 256, high + 256, low << 8, high << 8}
	for n := range 130 {
		l = append(l, n)
	}
	return append(l, low-1, low, high, high+1, high+2)
}

// Promise 15.2: every count, each element of Ground and each rail's among them, is refused at its word unless it is within its bounds, whatever follows.
func TestDecodeCounts(t *testing.T) {
	for _, tr := range samples()[:4] {
		s := encoding(tr)
		for _, w := range s.words {
			if w.sort != count {
				continue
			}
			for _, n := range counts(w.low, w.high) {
				if n < 0 {
					continue
				}
				b := pokedCount(s.b, w.at, n)
				got := holdReckoned(t, b)
				if refused := got == (found{api.ErrCount, w.at}); refused != (n < w.low || n > w.high) {
					t.Fatalf("the count %d at %d of %x tells %v", n, w.at, b, got)
				}
			}
		}
	}
}

// sized makes the tracks of which one count is as it is told, all else fitting it, with the position of that count.
func sized() map[string]func(n int) (api.Track, int) {
	ahead := func(cols, rows int) int { return 34 + 8*(cols+1)*(rows+1) + 2*cols*rows } // where the count of Kinds is
	return map[string]func(n int) (api.Track, int){
		"Rate": func(n int) (api.Track, int) {
			t := level(2, 1)
			t.Rate = n
			return t, 4
		},
		"Cols": func(n int) (api.Track, int) { return level(n, 3), 14 },
		"Rows": func(n int) (api.Track, int) { return level(3, n), 16 },
		"Ground": func(n int) (api.Track, int) {
			t := level(3, 2)
			t.Kinds, t.Ground[4] = make([]api.Kind, 8), n
			return t, 34 + 8*12 + 2*4
		},
		"Kinds": func(n int) (api.Track, int) {
			t := level(2, 2)
			t.Kinds = make([]api.Kind, n)
			return t, ahead(2, 2)
		},
		"Line": func(n int) (api.Track, int) {
			t := level(1, 1)
			t.Line = row(n)
			return t, ahead(1, 1) + 2 + 17
		},
		"Rails": func(n int) (api.Track, int) {
			t := level(1, 1)
			t.Rails = repeated(n, 2)
			return t, ahead(1, 1) + 2 + 17 + 2 + 48
		},
		"first rail": func(n int) (api.Track, int) {
			t := level(1, 1)
			t.Rails = [][]api.V2{row(n), row(3)}
			return t, ahead(1, 1) + 2 + 17 + 2 + 48 + 2
		},
		"last rail": func(n int) (api.Track, int) {
			t := level(1, 1)
			t.Rails = append(repeated(15, 2), row(n))
			return t, ahead(1, 1) + 2 + 17 + 2 + 48 + 2 + 15*34
		},
		"Gates": func(n int) (api.Track, int) {
			t := level(1, 1)
			t.Gates = gates(n)
			return t, ahead(1, 1) + 2 + 17 + 2 + 48 + 2
		},
		"Laps": func(n int) (api.Track, int) {
			t := level(1, 1)
			t.Laps = n
			return t, ahead(1, 1) + 2 + 17 + 2 + 48 + 2 + 2 + 33 + 16 + 8
		},
	}
}

// Promises 15.1 to 15.3: each count at both of its bounds and one beyond either, with as much behind it as it tells.
func TestCountBounds(t *testing.T) {
	bounds := map[string][2]int{
		"Rate": {60, 1024}, "Cols": {1, 64}, "Rows": {1, 64}, "Ground": {0, 7}, "Kinds": {1, 8}, "Line": {3, 64}, "Rails": {0, 16},
		"first rail": {2, 64}, "last rail": {2, 64}, "Gates": {1, 16}, "Laps": {1, 100},
	}
	faults := map[string]api.Errno{"Rate": api.ErrRange, "Ground": api.ErrRange, "Laps": api.ErrRange}
	for name, build := range sized() {
		low, high := bounds[name][0], bounds[name][1]
		for _, n := range []int{low, low + 1, (low + high) / 2, high - 1, high} {
			tr, _ := build(n)
			holdTrack(t, encoding(tr).b, tr)
		}
		for _, n := range []int{low - 1, high + 1, high + 2} {
			if n < 0 {
				continue
			}
			tr, at := build(n)
			want := api.ErrShape
			if err, listed := faults[name]; listed {
				want = err
			}
			holdWrong(t, tr, want)
			holdFault(t, encoding(tr).b, api.ErrCount, at)
		}
	}
	// Counts that no word can have are wrong in a track, though their lowest 16 bits would be right.
	for _, more := range []int{1 << 16, -1 << 16, 1 << 32, -1 << 62, math.MinInt} {
		for _, name := range []string{"Rate", "Laps", "Ground"} {
			tr, _ := sized()[name](bounds[name][1] + more)
			holdWrong(t, tr, faults[name])
		}
		cols, rows := level(1, 1), level(1, 1)
		cols.Cols, rows.Rows = 1+more, 1+more
		holdWrong(t, cols, api.ErrShape)
		holdWrong(t, rows, api.ErrShape)
	}
	ground, _ := sized()["Ground"](-1)
	holdWrong(t, ground, api.ErrRange)
}

// Promise 15.2: an element of Ground is read against MaxKinds, and held against the kinds that there are only at the end.
func TestDecodeGround(t *testing.T) {
	for kinds := 1; kinds <= 8; kinds++ {
		for cell := range 6 {
			for n := range 12 {
				tr := level(3, 2)
				tr.Kinds, tr.Ground[cell] = make([]api.Kind, kinds), n
				b := encoding(tr).b
				switch {
				case n < kinds:
					holdTrack(t, b, tr)
				case n < 8:
					holdFault(t, b, api.ErrRange, len(b))
					holdWrong(t, tr, api.ErrRange)
				default:
					holdFault(t, b, api.ErrCount, 34+8*12+2*cell)
					holdWrong(t, tr, api.ErrRange)
				}
			}
		}
	}
}

// Promises 15.1 to 15.3: Head at 0, at 2^32 - 1, between them, and beyond either.
func TestHead(t *testing.T) {
	for _, tr := range samples() {
		at := len(encoding(tr).b) - 10
		for _, n := range []int64{0, 1, 255, 256, 1<<31 - 1, 1 << 31, 1<<31 + 1, 1<<32 - 2, 1<<32 - 1} {
			tr.Head = api.Turn(n)
			holdTrack(t, written(tr, n).b, tr)
		}
		for _, n := range []int64{-1, 1 << 32, -2, 1<<32 + 1, -1 << 32, -1<<32 + 5, 1<<33 + 5, 1 << 62, -1 << 62, math.MaxInt64, math.MinInt64, -1 << 31, 1<<40 + 1} {
			holdFault(t, written(tr, n).b, api.ErrRange, at)
		}
	}
}

// Promise 15.2: Head is refused ahead of what is behind it, and behind what is ahead of it.
func TestHeadAmongOthers(t *testing.T) {
	for _, n := range []int64{-1, 1 << 32, math.MinInt64} {
		s := written(mixed(), n)
		at := len(s.b) - 10
		holdFault(t, s.b[:len(s.b)-1], api.ErrRange, at)
		holdFault(t, s.b[:at+8], api.ErrRange, at)
		holdFault(t, s.b[:at+7], api.ErrShort, at+7)
		holdFault(t, append(slices.Clone(s.b), 7), api.ErrRange, at)
		holdFault(t, pokedCount(s.b, at+8, 0), api.ErrRange, at)
		holdFault(t, pokedCount(s.b, at+8, 101), api.ErrRange, at)
		holdFault(t, poked(s.b, at-17, 9), api.ErrFlag, at-17)
	}
	bare := encoding(mixed()).b
	at := len(bare) - 10
	bare[at+8] = 101
	holdFault(t, bare, api.ErrCount, at+8)
	holdFault(t, bare[:at+9], api.ErrShort, at+9)
}

// Promises 15.1 to 15.3: both values of each flag, and every byte that is none.
func TestFlags(t *testing.T) {
	s := encoding(mixed())
	flags := 0
	for _, w := range s.words {
		if w.sort != flag {
			continue
		}
		for n := range 256 {
			b := poked(s.b, w.at, byte(n))
			want := found{}
			if n > 1 {
				want = found{api.ErrFlag, w.at}
			}
			if got := holdReckoned(t, b); got != want {
				t.Fatalf("the flag %d at %d tells %v", n, w.at, got)
			}
		}
		flags++
	}
	if flags != 6 {
		t.Fatalf("%d flags", flags)
	}
	for yes := range 64 {
		tr := mixed()
		for i := range 3 {
			tr.Kinds[i].Off, tr.Gates[i].Split = yes>>i&1 == 1, yes>>(i+3)&1 == 1
		}
		holdTrack(t, encoding(tr).b, tr)
	}
}

// edges are numbers of every length, both ends of all ranges and one part beyond either.
func edges() []int64 {
	l := []int64{math.MaxInt64, math.MinInt64, math.MinInt64 + 1}
	for _, n := range []api.Fx{0, 4 * one, 64 * one, far, top, one, 2 * one, 8 * one} {
		for d := api.Fx(-1); d <= 1; d++ {
			l = append(l, int64(n+d), int64(-n+d))
		}
	}
	for k := range 63 {
		l = append(l, 1<<k, -1<<k, 0x5a<<k)
	}
	return l
}

// Promises 15.2 and 15.3: every number of a track at the ends of its range, beyond them, and at those of all numbers.
func TestNumbers(t *testing.T) {
	s := encoding(mixed())
	seen := map[api.Errno]int{}
	for _, w := range s.words {
		if w.sort != number {
			continue
		}
		for _, n := range edges() {
			seen[holdReckoned(t, pokedNumber(s.b, w.at, n)).err]++
		}
		holdFault(t, pokedNumber(s.b, w.at, math.MinInt64), api.ErrRange, len(s.b))
		holdFault(t, pokedNumber(s.b, w.at, math.MaxInt64), api.ErrRange, len(s.b))
	}
	if seen[api.OK] < 1000 || seen[api.ErrRange] < 1000 {
		t.Fatalf("numbers tell %v", seen)
	}
}

// spoiling is a change of the valid track mixed, with the error that it makes.
type spoiling struct {
	err   api.Errno
	spoil func(t *api.Track)
}

// numeric are changes of numbers alone, so that their bytes are read, in the order in which they are told.
func numeric() []spoiling {
	return []spoiling{
		{api.ErrRange, func(t *api.Track) { t.Cell = 4*one - 1 }},
		{api.ErrRange, func(t *api.Track) { t.Cell = 64*one + 1 }},
		{api.ErrRange, func(t *api.Track) { t.Corner.X = far + 1 }},
		{api.ErrRange, func(t *api.Track) { t.Corner.Y = -far - 1 }},
		{api.ErrRange, func(t *api.Track) { t.Heights[0] = top + 1 }},
		{api.ErrRange, func(t *api.Track) { t.Heights[5] = -6 * one }},
		{api.ErrRange, func(t *api.Track) { t.Ground[1] = 3 }},
		{api.ErrRange, func(t *api.Track) { t.Kinds[0].Grip = -1 }},
		{api.ErrRange, func(t *api.Track) { t.Kinds[2].Drag = one + 1 }},
		{api.ErrRange, func(t *api.Track) { t.Line[3].Y = far + 1 }},
		{api.ErrRange, func(t *api.Track) { t.Rails[0][2].X = far + 1 }},
		{api.ErrSide, func(t *api.Track) { t.Rails[1][0] = t.Rails[1][1] }},
		{api.ErrRange, func(t *api.Track) { t.Gates[0].A.X = -far - 1 }},
		{api.ErrSide, func(t *api.Track) { t.Gates[2].A = t.Gates[2].B }},
		{api.ErrRange, func(t *api.Track) { t.Start.X = t.Corner.X - 1 }},
		{api.ErrSide, func(t *api.Track) { t.Start = t.Corner; t.Rails[1] = []api.V2{whole(-9, 7), whole(9, 7)} }},
	}
}

// formal are changes of counts, so that bytes of such a track are refused where they are read.
func formal() []spoiling {
	return []spoiling{
		{api.ErrRange, func(t *api.Track) { t.Rate = 59 }},
		{api.ErrRange, func(t *api.Track) { t.Rate = 1025 }},
		{api.ErrShape, func(t *api.Track) { t.Cols = 0 }},
		{api.ErrShape, func(t *api.Track) { t.Rows = 65 }},
		{api.ErrShape, func(t *api.Track) { t.Cols = 1 }},
		{api.ErrShape, func(t *api.Track) { t.Heights = t.Heights[:5] }},
		{api.ErrShape, func(t *api.Track) { t.Ground = append(t.Ground, 0) }},
		{api.ErrShape, func(t *api.Track) { t.Kinds = nil }},
		{api.ErrShape, func(t *api.Track) { t.Line = t.Line[:2] }},
		{api.ErrShape, func(t *api.Track) { t.Rails = repeated(17, 2) }},
		{api.ErrShape, func(t *api.Track) { t.Rails[0] = t.Rails[0][:1] }},
		{api.ErrShape, func(t *api.Track) { t.Gates = nil }},
		{api.ErrRange, func(t *api.Track) { t.Laps = 0 }},
		{api.ErrRange, func(t *api.Track) { t.Laps = 101 }},
	}
}

// Promises 15.1 and 15.2: a track that is not valid has no bytes, and bytes that are those of such a track tell its error at their end.
func TestWrongTracks(t *testing.T) {
	holdWrong(t, api.Track{}, api.ErrRange)
	for _, s := range formal() {
		tr := mixed()
		s.spoil(&tr)
		holdWrong(t, tr, s.err)
		holdReckoned(t, encoding(tr).b)
	}
	for _, s := range numeric() {
		tr := mixed()
		s.spoil(&tr)
		holdWrong(t, tr, s.err)
		b := encoding(tr).b
		holdFault(t, b, s.err, len(b))
		holdFault(t, append(slices.Clone(b), 0), api.ErrMore, len(b))
		holdFault(t, b[:len(b)-1], api.ErrShort, len(b)-1)
	}
}

// Promises 15.1 and 15.2: of two errors of a track the one that track.Right tells, whose position within the track is told by neither.
func TestWrongTrackPairs(t *testing.T) {
	seen := map[found]int{}
	all := append(numeric(), formal()...)
	for i, first := range all {
		for _, second := range all[i+1:] {
			for _, order := range [][2]spoiling{{first, second}, {second, first}} {
				tr := mixed()
				order[0].spoil(&tr)
				if len(tr.Rails) < 2 || len(tr.Rails[0]) < 3 || len(tr.Gates) < 3 || len(tr.Kinds) < 3 || len(tr.Line) < 4 || len(tr.Heights) < 6 {
					continue // there is nothing left for the other one
				}
				order[1].spoil(&tr)
				err, at := track.Right(tr)
				seen[found{err, at}]++
				holdWrong(t, tr, err)
				holdReckoned(t, encoding(tr).b)
			}
		}
	}
	for _, f := range []found{{api.ErrRange, 0}, {api.ErrShape, 0}, {api.ErrSide, 0}, {api.ErrSide, 1}, {api.ErrSide, 2}} {
		if seen[f] == 0 {
			t.Fatalf("pairs tell %v", seen)
		}
	}
}

// Promise 15.2: of two words that may not be, the first one tells the error; a number that only the track refuses is behind them all.
func TestDecodePairs(t *testing.T) {
	s := encoding(mixed())
	for i, first := range s.words {
		once, want := spoilt(s.b, first)
		holdFault(t, once, want.err, want.at)
		more := append(slices.Clone(once), 0)
		if first.sort == number {
			holdFault(t, more, api.ErrMore, len(s.b))
		} else {
			holdFault(t, more, want.err, want.at)
		}
		for _, second := range s.words[i+1:] {
			twice, other := spoilt(once, second)
			if first.sort == number {
				holdFault(t, twice, other.err, other.at)
			} else {
				holdFault(t, twice, want.err, want.at)
			}
		}
	}
}

// Promise 15.2: a word that may not be, in bytes that are cut off: what is behind the word is not missed any more.
func TestDecodeCutPairs(t *testing.T) {
	s := encoding(mixed())
	for _, w := range s.words {
		b, want := spoilt(s.b, w)
		for n := range b {
			if n < w.end || w.sort == number {
				holdFault(t, b[:n], api.ErrShort, n)
			} else {
				holdFault(t, b[:n], want.err, want.at)
			}
		}
	}
}

// Rule R3: empty lists may be nil or not; a track without rails has the same bytes either way.
func TestEmptyLists(t *testing.T) {
	none, empty := mixed(), mixed()
	none.Rails, empty.Rails = nil, [][]api.V2{}
	holdTrack(t, encoding(none).b, empty)
	holdTrack(t, encoding(empty).b, none)
	clears := []func(t *api.Track, none bool){
		func(t *api.Track, none bool) { t.Heights = emptied(t.Heights, none) },
		func(t *api.Track, none bool) { t.Ground = emptied(t.Ground, none) },
		func(t *api.Track, none bool) { t.Kinds = emptied(t.Kinds, none) },
		func(t *api.Track, none bool) { t.Line = emptied(t.Line, none) },
		func(t *api.Track, none bool) { t.Rails[1] = emptied(t.Rails[1], none) },
		func(t *api.Track, none bool) { t.Gates = emptied(t.Gates, none) },
	}
	for _, spoil := range clears {
		for _, none := range []bool{false, true} {
			tr := mixed()
			spoil(&tr, none)
			holdWrong(t, tr, api.ErrShape)
			holdReckoned(t, encoding(tr).b)
		}
	}
}

// emptied is a list of no elements: none at all, or an empty one.
func emptied[E any](l []E, none bool) []E {
	if none {
		return nil
	}
	return l[:0]
}

// spread is a track whose lists have something behind their ends.
func spread(t api.Track) api.Track {
	t = copied(t)
	t.Heights, t.Ground, t.Kinds = spare(t.Heights, 7), spare(t.Ground, 7), spare(t.Kinds, api.Kind{Grip: 7})
	t.Line, t.Gates, t.Rails = spare(t.Line, whole(7, 7)), spare(t.Gates, api.Gate{A: whole(7, 7)}), spare(t.Rails, row(7))
	for i, l := range t.Rails {
		t.Rails[i] = spare(l, whole(7, 7))
	}
	return t
}

// unspread tells whether what is behind the ends of such a track's lists is still there.
func unspread(t api.Track) bool {
	last := func(l []api.V2) api.V2 { return l[:len(l)+1][len(l)] }
	kept := t.Heights[:len(t.Heights)+1][len(t.Heights)] == 7 && t.Ground[:len(t.Ground)+1][len(t.Ground)] == 7 &&
		t.Kinds[:len(t.Kinds)+1][len(t.Kinds)].Grip == 7 && last(t.Line) == whole(7, 7) &&
		t.Gates[:len(t.Gates)+1][len(t.Gates)].A == whole(7, 7) && slices.Equal(t.Rails[:len(t.Rails)+1][len(t.Rails)], row(7))
	for _, l := range t.Rails {
		kept = kept && last(l) == whole(7, 7)
	}
	return kept
}

// Rule R4: Encode changes nothing of a track, valid or not, and nothing behind its lists, and what it told stays whatever becomes of the track.
func TestEncodeMemory(t *testing.T) {
	bad := mixed()
	bad.Gates[2].B = bad.Gates[2].A
	late := mixed()
	late.Laps = 0
	for _, tr := range append(samples(), bad, late) {
		wide := spread(tr)
		b, err := trackio.Encode(wide)
		before := slices.Clone(b)
		if !reflect.DeepEqual(wide, spread(tr)) || !unspread(wide) {
			t.Fatalf("the track is now %v", wide)
		}
		if right, _ := track.Right(tr); right != err || err == api.OK && !bytes.Equal(b, encoding(tr).b) {
			t.Fatalf("Encode(%v) = %x, %d", tr, b, err)
		}
		scribble(wide)
		if !bytes.Equal(b, before) {
			t.Fatal("the bytes change with the track")
		}
		clear(b[:cap(b)])
		if again, err := trackio.Encode(tr); err == api.OK && !bytes.Equal(again, before) {
			t.Fatal("other bytes at the second time")
		}
	}
}

// scribble writes over all of a track's lists, and what is behind their ends.
func scribble(t api.Track) {
	for _, l := range t.Rails {
		scrawl(l)
	}
	scrawl(t.Line)
	heights, ground, kinds, gates, rails := t.Heights, t.Ground, t.Kinds, t.Gates, t.Rails
	for i := range heights[:cap(heights)] {
		heights[:cap(heights)][i] = -99
	}
	for i := range ground[:cap(ground)] {
		ground[:cap(ground)][i] = -99
	}
	clear(kinds[:cap(kinds)])
	clear(gates[:cap(gates)])
	clear(rails[:cap(rails)])
}

// scrawl writes over all points of a list, and what is behind its end.
func scrawl(l []api.V2) {
	for i := range l[:cap(l)] {
		l[:cap(l)][i] = parts(least, greatest)
	}
}

// Rule R4: Decode changes no bytes, nor what is behind their end, and the track stays whatever becomes of them; no two lists share memory.
func TestDecodeMemory(t *testing.T) {
	for _, tr := range samples() {
		want := encoding(tr).b
		b := spare(want, 77)
		got, err, _ := trackio.Decode(b)
		if err != api.OK || !bytes.Equal(b[:len(b)+1], append(slices.Clone(want), 77)) {
			t.Fatalf("error %d, and the bytes are now %x", err, b)
		}
		clear(b[:cap(b)])
		if !same(got, tr) {
			t.Fatal("the track changes with the bytes")
		}
		for i := range got.Rails {
			scrawl(got.Rails[i])
			for k := range got.Rails {
				if k > i && !slices.Equal(got.Rails[k], tr.Rails[k]) {
					t.Fatalf("rails %d and %d share memory", i, k)
				}
			}
		}
		if !slices.Equal(got.Line, tr.Line) {
			t.Fatal("the line shares memory with a rail")
		}
		scribble(got)
		if again, _, _ := trackio.Decode(want); !same(again, tr) {
			t.Fatal("another track at the second time")
		}
	}
}

// Rule R5: an answer hangs on nothing that was asked ahead of it.
func TestAnswersApart(t *testing.T) {
	d := draw(1)
	all := samples()
	for range 300 {
		tr := all[d.IntN(4)]
		b := encoding(tr).b
		switch d.IntN(4) {
		case 0:
			n := d.IntN(len(b))
			holdFault(t, b[:n], api.ErrShort, n)
		case 1:
			holdWrong(t, api.Track{Rate: 100}, api.ErrShape)
		case 2:
			holdFault(t, append(b, 1), api.ErrMore, len(b))
		case 3:
			holdTrack(t, b, tr)
		}
	}
}

// drawer draws by a fixed rule.
type drawer struct{ *rand.Rand }

func draw(seed uint64) drawer { return drawer{rand.New(rand.NewPCG(15, seed))} }

// number draws a number from low to high, quite often one of both.
func (d drawer) number(low, high api.Fx) api.Fx {
	switch d.IntN(8) {
	case 0:
		return low
	case 1:
		return high
	}
	return low + api.Fx(d.Int64N(int64(high-low)+1))
}

// points draws so many points, none of which is equal to the one ahead of it.
func (d drawer) points(n int) []api.V2 {
	l := []api.V2{}
	for len(l) < n {
		if p := parts(d.number(-far, far), d.number(-far, far)); len(l) == 0 || l[len(l)-1] != p {
			l = append(l, p)
		}
	}
	return l
}

// try draws a track that is valid but for, maybe, a rail that the start is behind.
func (d drawer) try() api.Track {
	t := level(1+d.IntN(5), 1+d.IntN(5))
	t.Rate, t.Laps, t.Head = 60+d.IntN(965), 1+d.IntN(100), api.Turn(d.Uint32())
	t.Cell, t.Corner = d.number(4*one, 64*one), parts(d.number(-far, far), d.number(-far, far))
	base := d.number(-top+2*one, top-2*one)
	for i := range t.Heights {
		t.Heights[i] = base + d.number(-2*one, 2*one)
	}
	t.Kinds = nil
	for range 1 + d.IntN(8) {
		t.Kinds = append(t.Kinds, api.Kind{Grip: d.number(0, 2*one), Drag: d.number(0, one), Off: d.IntN(2) == 0})
	}
	for i := range t.Ground {
		t.Ground[i] = d.IntN(len(t.Kinds))
	}
	t.Line = d.points(3 + d.IntN(6))
	for range d.IntN(5) {
		t.Rails = append(t.Rails, d.points(2+d.IntN(5)))
	}
	t.Gates = nil
	for range 1 + d.IntN(4) {
		l := d.points(2)
		t.Gates = append(t.Gates, api.Gate{A: l[0], B: l[1], Split: d.IntN(2) == 0})
	}
	t.Start = parts(t.Corner.X+d.number(0, t.Cell*api.Fx(t.Cols)), t.Corner.Y+d.number(0, t.Cell*api.Fx(t.Rows)))
	return t
}

// track draws a valid track.
func (d drawer) track() api.Track {
	for {
		t := d.try()
		if err, _ := track.Right(t); err == api.OK {
			return t
		}
	}
}

// Promise 15.3: drawn tracks come back equal from their bytes.
func TestThereAndBackDrawn(t *testing.T) {
	d := draw(2)
	for range 5000 {
		tr := d.track()
		holdTrack(t, encoding(tr).b, tr)
	}
}

// spoil changes something of an encoding, which may be one still.
func (d drawer) spoil(s *sheet) []byte {
	w := s.words[d.IntN(len(s.words))]
	i := d.IntN(len(s.b))
	switch d.IntN(9) {
	case 0:
		return s.b[:i]
	case 1:
		return append(slices.Clone(s.b), make([]byte, 1+d.IntN(20))...)
	case 2:
		return slices.Delete(slices.Clone(s.b), i, i+1)
	case 3:
		return slices.Insert(slices.Clone(s.b), i, byte(d.Uint32()))
	case 4:
		return poked(s.b, i, s.b[i]^1<<d.IntN(8))
	case 5:
		b, _ := spoilt(s.b, w)
		return b
	case 6:
		other := s.words[d.IntN(len(s.words))] // a word in place of another one
		return slices.Replace(slices.Clone(s.b), w.at, w.end, s.b[other.at:other.end]...)
	}
	for range 50 {
		if w.sort == number || w.sort == count {
			break
		}
		w = s.words[d.IntN(len(s.words))]
	}
	if w.sort == count {
		return pokedCount(s.b, w.at, d.IntN(w.high+2))
	}
	l := edges()
	return pokedNumber(s.b, w.at, l[d.IntN(len(l))])
}

// Promises 15.2 and 15.3: drawn encodings that are spoilt, as another reading reads them.
func TestDecodeDrawn(t *testing.T) {
	d := draw(3)
	seen := map[api.Errno]int{}
	for range 30000 {
		tr := d.try()
		if d.IntN(10) == 0 {
			tr.Gates[0].A = tr.Gates[0].B
		}
		s := encoding(tr)
		for range 1 + d.IntN(2) {
			b := d.spoil(s)
			if len(b) == len(s.b) {
				s.b = b // once more, in the same words
			} else {
				seen[holdReckoned(t, b).err]++
			}
		}
		seen[holdReckoned(t, s.b).err]++
	}
	for _, e := range []api.Errno{api.OK, api.ErrShort, api.ErrMagic, api.ErrCount, api.ErrMore, api.ErrFlag, api.ErrRange, api.ErrSide} {
		if seen[e] < 100 {
			t.Fatalf("drawn bytes tell %v", seen)
		}
	}
}

// Rules R1 and R2: any bytes at all.
func TestDecodeAnything(t *testing.T) {
	d := draw(4)
	for range 30000 {
		b := []byte("CHTR")[:d.IntN(5)]
		b = slices.Clone(b)
		for range d.IntN(300) {
			b = append(b, byte(d.Uint32()>>(d.IntN(4)*8))>>d.IntN(9))
		}
		holdReckoned(t, b)
	}
	holdFault(t, append([]byte("CHTR"), bytes.Repeat([]byte{255}, 1<<20)...), api.ErrCount, 4)
	holdFault(t, make([]byte, 1<<24+5), api.ErrMagic, 0)
	b := encoding(mixed()).b
	holdFault(t, append(b, make([]byte, 1<<24+5)...), api.ErrMore, len(b))
}
