package wire_test

import (
	"bytes"
	"encoding/binary"
	"encoding/hex"
	"math"
	"math/rand/v2"
	"slices"
	"strings"
	"testing"

	"chicane/api"
	"chicane/wire"
)

// numbers are numbers of every length, and the ends of the range.
func numbers() []int64 {
	l := []int64{0, 0x0102030405060708, -0x0102030405060708, math.MaxInt64, math.MinInt64, math.MinInt64 + 1}
	for k := range 63 {
		p := int64(1) << k
		l = append(l, p-1, p, p+1, -p-1, -p, -p+1)
	}
	return l
}

// marks are texts that are shorter than a mark, as long as one, and longer, also with bytes that make no letter, and each with its mark.
func marks() map[string]string {
	return map[string]string{
		"": "\x00\x00\x00\x00", "A": "A\x00\x00\x00", "AB": "AB\x00\x00", "ABC": "ABC\x00", "ABCD": "ABCD",
		"ABCDE": "ABCD", "ABCD\x00\x00": "ABCD", "\x00": "\x00\x00\x00\x00", "\x00\x00\x00\x00\x01": "\x00\x00\x00\x00",
		"\x00AB": "\x00AB\x00", "AB\x00D": "AB\x00D", "\xff\xfe": "\xff\xfe\x00\x00", "\u00e9\u00e9": "\xc3\xa9\xc3\xa9",
		"A\u20ac\u20ac": "A\xe2\x82\xac", "ab\u00e9\u00e9": "ab\xc3\xa9", "abc\u00e9": "abc\xc3", strings.Repeat("xyz", 1000): "xyzx",
	}
}

// holdOut holds the bytes that are put onto others, onto none, and one behind the other.
func holdOut(t *testing.T, put func(o *wire.Out), want string) {
	t.Helper()
	o := &wire.Out{}
	put(o)
	if got := string(o.Bytes()); got != want {
		t.Fatalf("bytes % x, not % x", got, want)
	}
	put(o)
	o.Raw([]byte("end"))
	if got := string(o.Bytes()); got != want+want+"end" {
		t.Fatalf("bytes % x, not % x twice, and an end", got, want)
	}
}

// holdEnd holds the first error and its position, twice, as End changes nothing the second time, and Good.
func holdEnd(t *testing.T, i *wire.In, want api.Errno, at int) {
	t.Helper()
	for range 2 {
		if e, spot := i.End(); e != want || spot != at {
			t.Fatalf("error %d at %d, not %d at %d", e, spot, want, at)
		}
		if i.Good() != (want == api.OK) {
			t.Fatalf("Good is %v with the error %d", i.Good(), want)
		}
	}
}

// holdDead holds that every read returns nothing and that the first error stays, whatever is read and refused behind it.
func holdDead(t *testing.T, i *wire.In, want api.Errno, at int) {
	t.Helper()
	for range 3 {
		if i.Good() {
			t.Fatalf("Good with the error %d at %d", want, at)
		}
		if n := i.Num(); n != 0 {
			t.Fatalf("Num read %d behind an error", n)
		}
		if n := i.Count(math.MinInt, math.MaxInt); n != 0 {
			t.Fatalf("Count read %d behind an error", n)
		}
		if n := i.Count(7, 3); n != 0 {
			t.Fatalf("Count read %d behind an error", n)
		}
		if i.Flag() {
			t.Fatal("Flag read true behind an error")
		}
		i.Mark("ABCD")
		i.Mark("")
		for _, n := range []int64{-1, 0, 1, 2, api.MaxBytes, api.MaxBytes + 1} {
			if b := i.Raw(n); len(b) != 0 {
				t.Fatalf("Raw(%d) read % x behind an error", n, b)
			}
		}
		i.Refuse(api.ErrState)
		i.Refuse(api.OK)
		holdEnd(t, i, want, at)
	}
}

// behind makes an In that stands at a position, with so many bytes left; all bytes are 1.
func behind(position, left int) *wire.In {
	i := wire.NewIn(bytes.Repeat([]byte{1}, position+left))
	i.Raw(int64(position))
	return i
}

// Promise 10.1: the chapter's examples.
func TestOutExamples(t *testing.T) {
	o := &wire.Out{}
	o.Mark("AB")
	o.Count(258)
	o.Flag(true)
	o.Num(math.MinInt64)
	if got := hex.EncodeToString(o.Bytes()); got != "41420000"+"0201"+"01"+"0000000000000080" {
		t.Fatal(got)
	}
	holdOut(t, func(o *wire.Out) { o.Num(-2) }, "\xfe\xff\xff\xff\xff\xff\xff\xff")
}

// Promise 10.1: a zero Out has no bytes.
func TestOutNone(t *testing.T) {
	o := wire.Out{}
	if b := o.Bytes(); len(b) != 0 {
		t.Fatalf("% x", b)
	}
	holdOut(t, func(o *wire.Out) {}, "")
}

// Promise 10.1: a number is eight bytes of its two's complement.
func TestOutNum(t *testing.T) {
	holdOut(t, func(o *wire.Out) { o.Num(0x0102030405060708) }, "\x08\x07\x06\x05\x04\x03\x02\x01")
	for _, n := range numbers() {
		want := string(binary.LittleEndian.AppendUint64(nil, uint64(n)))
		holdOut(t, func(o *wire.Out) { o.Num(n) }, want)
	}
}

// Promise 10.1: a count is the lowest 16 bits, for every count, and for numbers that are none.
func TestOutCount(t *testing.T) {
	for n := range 1 << 16 {
		for _, more := range []int{0, 1 << 16, -1 << 16, math.MinInt, 1 << 30} {
			holdOut(t, func(o *wire.Out) { o.Count(n + more) }, string([]byte{byte(n % 256), byte(n / 256)}))
		}
	}
	holdOut(t, func(o *wire.Out) { o.Count(-1) }, "\xff\xff")
	holdOut(t, func(o *wire.Out) { o.Count(-2) }, "\xfe\xff")
	holdOut(t, func(o *wire.Out) { o.Count(math.MaxInt) }, "\xff\xff")
	holdOut(t, func(o *wire.Out) { o.Count(math.MinInt) }, "\x00\x00")
}

// Promise 10.1: a flag is one byte.
func TestOutFlag(t *testing.T) {
	holdOut(t, func(o *wire.Out) { o.Flag(false) }, "\x00")
	holdOut(t, func(o *wire.Out) { o.Flag(true) }, "\x01")
}

// Promise 10.1: a mark is the first four bytes, with zeros in place of missing ones.
func TestOutMark(t *testing.T) {
	for s, want := range marks() {
		holdOut(t, func(o *wire.Out) { o.Mark(s) }, want)
	}
}

// Promise 10.1: raw bytes are put unchanged, as many as there are.
func TestOutRaw(t *testing.T) {
	all := []byte{}
	for n := range 256 {
		all = append(all, byte(n))
	}
	for _, b := range [][]byte{nil, {}, {0}, {255}, {0, 0, 0, 0, 0}, all, bytes.Repeat(all, 400)} {
		holdOut(t, func(o *wire.Out) { o.Raw(b) }, string(b))
	}
}

// Promise 10.1: Bytes tells a copy: it is not changed by what is put later, and changing it changes neither the Out nor another copy.
func TestOutCopies(t *testing.T) {
	o := &wire.Out{}
	copies := [][]byte{}
	wants := []string{}
	want := ""
	for k := range 40 {
		o.Raw([]byte{byte(k)})
		want += string([]byte{byte(k)})
		copies = append(copies, o.Bytes(), o.Bytes())
		wants = append(wants, want, want)
	}
	for k, c := range copies {
		if string(c) != wants[k] {
			t.Fatalf("copy %d is now % x", k, c)
		}
	}
	for k := 0; k < len(copies); k += 2 {
		for at := range copies[k] {
			copies[k][at] = 0xee
		}
		_ = append(copies[k], 0xdd, 0xdd)
		if string(copies[k+1]) != wants[k+1] || string(o.Bytes()) != want {
			t.Fatalf("another copy is now % x, and the bytes % x", copies[k+1], o.Bytes())
		}
	}
	o.Flag(true)
	if string(o.Bytes()) != want+"\x01" {
		t.Fatalf("the bytes are now % x", o.Bytes())
	}
}

// Rule R4: raw bytes are neither changed nor kept, nor what lies behind their end.
func TestOutArgumentsKept(t *testing.T) {
	o := &wire.Out{}
	b := []byte("abcdefgh")
	o.Raw(b[:3])
	o.Num(-1)
	if string(b) != "abcdefgh" {
		t.Fatalf("the argument is now %q", b)
	}
	copy(b, "........")
	if string(o.Bytes()) != "abc\xff\xff\xff\xff\xff\xff\xff\xff" {
		t.Fatalf("the bytes are now % x", o.Bytes())
	}
}

// Promise 10.2: numbers one behind the other, from the beginning.
func TestNum(t *testing.T) {
	b := []byte{}
	for _, n := range numbers() {
		b = binary.LittleEndian.AppendUint64(b, uint64(n))
	}
	i := wire.NewIn(b)
	for _, n := range numbers() {
		if got := i.Num(); got != n {
			t.Fatalf("Num read %d, not %d", got, n)
		}
	}
	holdEnd(t, i, api.OK, 0)
}

// Promise 10.2: too few bytes for each kind of word, at the beginning and further on: ErrShort at the end of the bytes, ahead of every other error.
func TestShort(t *testing.T) {
	for _, read := range []struct {
		size int
		call func(i *wire.In) bool
	}{
		{8, func(i *wire.In) bool { return i.Num() == 0 }},
		{2, func(i *wire.In) bool { return i.Count(0, math.MaxInt) == 0 }},
		{2, func(i *wire.In) bool { return i.Count(500, 600) == 0 }},
		{2, func(i *wire.In) bool { return i.Count(-2, -1) == 0 }},
		{2, func(i *wire.In) bool { return i.Count(1, 0) == 0 }},
		{1, func(i *wire.In) bool { return !i.Flag() }},
		{4, func(i *wire.In) bool { i.Mark("\x01\x01\x01\x01"); return true }},
		{4, func(i *wire.In) bool { i.Mark("ABCD"); return true }},
		{4, func(i *wire.In) bool { i.Mark(""); return true }},
		{1, func(i *wire.In) bool { return len(i.Raw(1)) == 0 }},
		{7, func(i *wire.In) bool { return len(i.Raw(7)) == 0 }},
		{api.MaxBytes, func(i *wire.In) bool { return len(i.Raw(api.MaxBytes)) == 0 }},
	} {
		for position := range 20 {
			for left := range min(read.size, 20) {
				i := behind(position, left)
				if !read.call(i) {
					t.Fatalf("something was read from %d bytes at %d", left, position)
				}
				holdDead(t, i, api.ErrShort, position+left)
			}
		}
	}
	i := wire.NewIn([]byte{1, 2})
	i.Num()
	holdDead(t, i, api.ErrShort, 2)
}

// Promise 10.2: the last word is there with no byte to spare.
func TestNoMoreThanNeeded(t *testing.T) {
	for position := range 20 {
		i := behind(position, 8)
		if n := i.Num(); n != 0x0101010101010101 {
			t.Fatalf("Num read %x", n)
		}
		holdEnd(t, i, api.OK, 0)
		i = behind(position, 2)
		if n := i.Count(0, 257); n != 257 {
			t.Fatalf("Count read %d", n)
		}
		holdEnd(t, i, api.OK, 0)
		i = behind(position, 1)
		if !i.Flag() {
			t.Fatal("Flag read false")
		}
		holdEnd(t, i, api.OK, 0)
		i = behind(position, 4)
		i.Mark("\x01\x01\x01\x01")
		holdEnd(t, i, api.OK, 0)
	}
}

// Promise 10.2: every count, and bounds at it, above it and below it: ErrCount at the beginning of the word.
func TestCount(t *testing.T) {
	for n := range 1 << 16 {
		for _, c := range []struct {
			least, most int
			good        bool
		}{
			{n, n, true}, {0, n, true}, {n, 1<<16 - 1, true}, {0, 1<<16 - 1, true}, {math.MinInt, math.MaxInt, true}, {n - 1, n + 1, true},
			{-5, math.MaxInt, true}, {n + 1, math.MaxInt, false}, {n + 1, n + 1, false}, {0, n - 1, false}, {math.MinInt, n - 1, false},
			{n - 1, n - 1, false}, {n + 1, n - 1, false}, {n + 1, n, false}, {n, n - 1, false}, {math.MaxInt, math.MinInt, false},
			{n + 1<<16, n + 1<<16, false}, {n - 1<<16, n - 1<<16, false},
		} {
			i := wire.NewIn([]byte{9, 9, 9, byte(n), byte(n >> 8)})
			i.Raw(3)
			got := i.Count(c.least, c.most)
			switch {
			case c.good && got == n && i.Good():
			case !c.good && got == 0 && !i.Good():
				holdEnd(t, i, api.ErrCount, 3)
			default:
				t.Fatalf("Count(%d, %d) of %d read %d, and Good is %v", c.least, c.most, n, got, i.Good())
			}
		}
	}
}

// Promise 10.2: the chapter's examples of counts and ends.
func TestCountExamples(t *testing.T) {
	b := []byte{5, 0, 3}
	i := wire.NewIn(b)
	if n := i.Count(0, 4); n != 0 {
		t.Fatal(n)
	}
	holdDead(t, i, api.ErrCount, 0)
	i = wire.NewIn(b)
	if n := i.Count(0, 5); n != 5 || !i.Good() {
		t.Fatal(n)
	}
	holdDead(t, ended(i), api.ErrMore, 2)
	i = wire.NewIn(b)
	if n := i.Count(6, 9); n != 0 {
		t.Fatal(n)
	}
	holdDead(t, i, api.ErrCount, 0)
}

// ended is an In whose End was asked.
func ended(i *wire.In) *wire.In {
	i.End()
	return i
}

// Promise 10.2: every byte as a flag: ErrFlag at it if it is greater than 1.
func TestFlag(t *testing.T) {
	for v := range 256 {
		for position := range 4 {
			b := bytes.Repeat([]byte{1}, position+3)
			b[position] = byte(v)
			i := wire.NewIn(b)
			i.Raw(int64(position))
			if got := i.Flag(); got != (v == 1) {
				t.Fatalf("Flag read %v from %d", got, v)
			}
			if v > 1 {
				holdDead(t, i, api.ErrFlag, position)
				continue
			}
			holdDead(t, ended(i), api.ErrMore, position+1)
		}
	}
}

// Promise 10.2: marks of texts that are shorter and longer, and marks that differ in one byte or are another's: ErrMagic at the beginning of the word.
func TestMark(t *testing.T) {
	for s, want := range marks() {
		for _, text := range marks() {
			i := wire.NewIn([]byte("..." + text + "!"))
			i.Raw(3)
			i.Mark(s)
			if want == text {
				holdDead(t, ended(i), api.ErrMore, 7)
			} else {
				holdDead(t, i, api.ErrMagic, 3)
			}
		}
		for k := range 4 {
			for bit := range 8 {
				b := []byte(want)
				b[k] ^= 1 << bit
				i := wire.NewIn(b)
				i.Mark(s)
				holdDead(t, i, api.ErrMagic, 0)
			}
		}
	}
	i := wire.NewIn([]byte("AB"))
	i.Mark("AB")
	holdDead(t, i, api.ErrShort, 2)
}

// Promise 10.2: raw bytes, none of them too, and as many as there may be.
func TestRaw(t *testing.T) {
	i := wire.NewIn([]byte("abcdefgh"))
	for _, want := range []string{"", "a", "", "bcd", "efgh", ""} {
		if got := i.Raw(int64(len(want))); string(got) != want || !i.Good() {
			t.Fatalf("Raw read %q, not %q", got, want)
		}
	}
	holdEnd(t, i, api.OK, 0)
	all := bytes.Repeat([]byte("0123456789abcdef"), api.MaxBytes/16)
	i = wire.NewIn(append(slices.Clone(all), 7))
	if got := i.Raw(api.MaxBytes); !bytes.Equal(got, all) {
		t.Fatalf("Raw read %d bytes", len(got))
	}
	if got := i.Raw(1); string(got) != "\x07" {
		t.Fatalf("Raw read % x", got)
	}
	holdEnd(t, i, api.OK, 0)
	i = wire.NewIn(all[1:])
	if got := i.Raw(api.MaxBytes); len(got) != 0 {
		t.Fatalf("Raw read %d bytes of one less", len(got))
	}
	holdDead(t, i, api.ErrShort, api.MaxBytes-1)
}

// outside are numbers of raw bytes that may not be: some have few as their lowest 16 or 32 bits.
func outside() []int64 {
	return []int64{-1, -2, math.MinInt64, math.MinInt64 + 2, -1 << 32, -1<<32 + 2, api.MaxBytes + 1, api.MaxBytes << 1, 1 << 32, 1<<32 + 2, math.MaxInt64}
}

// Promise 10.2: raw bytes of a negative number and of more than MaxBytes: ErrCount at the beginning of the last word, or at 0 if none was read, and ahead of ErrShort.
func TestRawCount(t *testing.T) {
	for _, n := range outside() {
		for left := range 3 {
			for _, c := range lasts() {
				i := wire.NewIn(append([]byte(c.text), make([]byte, left)...))
				c.read(i)
				if b := i.Raw(n); len(b) != 0 {
					t.Fatalf("Raw(%d) read % x", n, b)
				}
				holdDead(t, i, api.ErrCount, c.last)
			}
		}
	}
	// As many bytes as are asked for are there, and yet too many.
	i := wire.NewIn(make([]byte, api.MaxBytes+20))
	i.Num()
	i.Num()
	if b := i.Raw(api.MaxBytes + 1); len(b) != 0 {
		t.Fatalf("Raw read %d bytes", len(b))
	}
	holdDead(t, i, api.ErrCount, 8)
}

// reading is bytes, how they are read, and where the last word of them begins.
type reading struct {
	text string
	read func(i *wire.In)
	last int
}

// lasts are readings that end with each kind of word, with raw bytes behind a word (which are none), and with nothing.
func lasts() []reading {
	return []reading{
		{"", func(i *wire.In) {}, 0},
		{"abc", func(i *wire.In) { i.Raw(3) }, 0},
		{"", func(i *wire.In) { i.Raw(0) }, 0},
		{"\x05\x00", func(i *wire.In) { i.Count(5, 5) }, 0},
		{"abc\x05\x00", func(i *wire.In) { i.Raw(3); i.Count(5, 5) }, 3},
		{"abc\x01", func(i *wire.In) { i.Raw(3); i.Flag() }, 3},
		{"\x00\x01", func(i *wire.In) { i.Flag(); i.Flag() }, 1},
		{"\x01ABCD", func(i *wire.In) { i.Flag(); i.Mark("ABCD") }, 1},
		{"ABCD\x01\x02\x03\x04\x05\x06\x07\x08", func(i *wire.In) { i.Mark("ABCD"); i.Num() }, 4},
		{"ABCD\x01\x02\x03\x04\x05\x06\x07\x08abc", func(i *wire.In) { i.Mark("ABCD"); i.Num(); i.Raw(3) }, 4},
		{"\x01abcdef", func(i *wire.In) { i.Flag(); i.Raw(3); i.Raw(3); i.Raw(0) }, 0},
		{"\x01\x00abcdef", func(i *wire.In) { i.Flag(); i.Flag(); i.Raw(3); i.Raw(3) }, 1},
		{"\x01\x01\x02\x03\x04\x05\x06\x07\x08\x05\x00", func(i *wire.In) { i.Flag(); i.Num(); i.Count(0, 9) }, 9},
	}
}

// Promise 10.2: Refuse sets its error, or ErrArg for OK, at the beginning of the last word, or at 0 if none was read.
func TestRefuse(t *testing.T) {
	errs := []api.Errno{api.ErrArg, api.ErrOver, api.ErrShort, api.ErrMagic, api.ErrCount, api.ErrMore, api.ErrFlag, api.ErrRange, api.ErrOrder, api.ErrShape, api.ErrSide, api.ErrEnd, api.ErrState, -1, 12345, math.MinInt, math.MaxInt}
	for _, c := range lasts() {
		for left := range 3 {
			for _, e := range errs {
				i := wire.NewIn(append([]byte(c.text), make([]byte, left)...))
				c.read(i)
				if !i.Good() {
					t.Fatalf("%q is not read", c.text)
				}
				i.Refuse(e)
				holdDead(t, i, e, c.last)
			}
			i := wire.NewIn(append([]byte(c.text), make([]byte, left)...))
			c.read(i)
			i.Refuse(api.OK)
			holdDead(t, i, api.ErrArg, c.last)
		}
	}
}

// Promise 10.2: the first error stays, whichever it is and whatever would be the next one.
func TestFirstError(t *testing.T) {
	for _, c := range []struct {
		want api.Errno
		at   int
		fail func(i *wire.In)
	}{
		{api.ErrShort, 30, func(i *wire.In) { i.Raw(31) }},
		{api.ErrCount, 8, func(i *wire.In) { i.Count(6, 9) }},
		{api.ErrFlag, 8, func(i *wire.In) { i.Flag() }},
		{api.ErrMagic, 8, func(i *wire.In) { i.Mark("AB") }},
		{api.ErrCount, 0, func(i *wire.In) { i.Raw(-1) }},
		{api.ErrRange, 0, func(i *wire.In) { i.Refuse(api.ErrRange) }},
		{api.ErrMore, 8, func(i *wire.In) { i.End() }},
		{api.ErrArg, 0, func(i *wire.In) { i.Refuse(api.OK); i.Refuse(api.ErrState) }},
	} {
		b := bytes.Repeat([]byte{5, 0}, 15)
		i := wire.NewIn(b)
		if n := i.Num(); n != 0x0005000500050005 || !i.Good() {
			t.Fatalf("Num read %x", n)
		}
		c.fail(i)
		holdDead(t, i, c.want, c.at)
	}
}

// Promise 10.2: bytes left at the end: ErrMore at the current position, which ends the reading too.
func TestEnd(t *testing.T) {
	holdEnd(t, wire.NewIn(nil), api.OK, 0)
	holdEnd(t, wire.NewIn([]byte{}), api.OK, 0)
	for position := range 20 {
		i := behind(position, 0)
		holdEnd(t, i, api.OK, 0)
		for left := 1; left < 20; left++ {
			i := behind(position, left)
			if !i.Good() {
				t.Fatal("not good ahead of the end")
			}
			holdDead(t, ended(i), api.ErrMore, position)
		}
	}
}

// Promise 10.2: where nothing is left, End sets no error, so that the next read or refusal is the first one.
func TestBehindEnd(t *testing.T) {
	i := wire.NewIn([]byte{7, 1})
	i.Raw(1)
	i.Flag()
	holdEnd(t, i, api.OK, 0)
	if b := i.Raw(0); len(b) != 0 || !i.Good() {
		t.Fatal("no bytes are refused at the end")
	}
	i.Refuse(api.ErrState)
	holdDead(t, i, api.ErrState, 1)
	i = wire.NewIn([]byte{7, 1})
	i.Raw(2)
	holdEnd(t, i, api.OK, 0)
	i.Flag()
	holdDead(t, i, api.ErrShort, 2)
}

// Promise 10.2: a copy of the bytes is read: changing them from outside changes nothing, and they are not changed.
func TestInCopies(t *testing.T) {
	b := append([]byte("ABCD\x05\x00\x01"), "behind"...)
	i := wire.NewIn(b[:7])
	other := wire.NewIn(b[:7])
	copy(b, "XXXX\x06\x07\x09")
	for _, i := range []*wire.In{i, other} {
		i.Mark("ABCD")
		if n := i.Count(0, 9); n != 5 {
			t.Fatalf("Count read %d", n)
		}
		copy(b, "YYYYYYYYYY")
		if !i.Flag() {
			t.Fatal("Flag read false")
		}
		holdEnd(t, i, api.OK, 0)
	}
	b = []byte("ABCD\x05\x00\x01behind")
	i = wire.NewIn(b[:4])
	i.Mark("ABCD")
	i.Num()
	holdDead(t, i, api.ErrShort, 4)
	if string(b) != "ABCD\x05\x00\x01behind" {
		t.Fatalf("the bytes are now %q", b)
	}
}

// Promise 10.2: raw bytes are copies: changing them, or adding to them, changes neither what is read next nor other raw bytes.
func TestRawCopies(t *testing.T) {
	b := []byte("abcdefgh")
	i := wire.NewIn(b)
	first := i.Raw(3)
	copy(first, "###")
	_ = append(first, "#####"...)
	second := i.Raw(3)
	if string(second) != "def" || string(first) != "###" {
		t.Fatalf("%q and %q", first, second)
	}
	copy(second, "...")
	_ = append(first, '!')
	if string(second) != "..." || string(first) != "###" || string(b) != "abcdefgh" {
		t.Fatalf("%q, %q and %q", first, second, b)
	}
	// Two readings that go on from the same place have no memory in common either.
	fork := *i
	third, same := i.Raw(2), fork.Raw(2)
	copy(third, "::")
	if string(third) != "::" || string(same) != "gh" {
		t.Fatalf("%q and %q", third, same)
	}
	holdEnd(t, i, api.OK, 0)
	holdEnd(t, &fork, api.OK, 0)
}

// The chapter's last words: a nil Out has no effect and no bytes.
func TestNilOut(t *testing.T) {
	var o *wire.Out
	for range 2 {
		for _, n := range numbers() {
			o.Num(n)
			o.Count(int(n))
		}
		o.Flag(true)
		o.Flag(false)
		o.Mark("ABCD")
		o.Mark("")
		o.Raw([]byte("abc"))
		o.Raw(nil)
		if b := o.Bytes(); len(b) != 0 {
			t.Fatalf("% x", b)
		}
	}
}

// The chapter's last words: a nil In returns 0 and false, and ErrArg and 0 at the end, whatever is refused.
func TestNilIn(t *testing.T) {
	holdDead(t, nil, api.ErrArg, 0)
}

// drawer draws by a fixed rule.
type drawer struct{ *rand.Rand }

func draw(seed uint64) drawer { return drawer{rand.New(rand.NewPCG(10, seed))} }

// number draws a number of every length.
func (d drawer) number() int64 { return int64(d.Uint64()) >> d.IntN(64) }

// raw draws up to so many bytes, of which many are small.
func (d drawer) raw(most int) []byte {
	b := []byte{}
	for range d.IntN(most + 1) {
		b = append(b, byte(d.Uint32()>>(d.IntN(4)*8))>>d.IntN(9))
	}
	return b
}

// pair draws a word or raw bytes: a call that writes it, and one that tells whether it is read back.
func (d drawer) pair() (func(o *wire.Out), func(i *wire.In) bool) {
	switch d.IntN(5) {
	case 0:
		n := d.number()
		return func(o *wire.Out) { o.Num(n) }, func(i *wire.In) bool { return i.Num() == n }
	case 1:
		n := d.IntN(1 << 16)
		least, most := n-d.IntN(2)*d.IntN(n+1), n+d.IntN(2)*d.IntN(1<<16-n)
		return func(o *wire.Out) { o.Count(n) }, func(i *wire.In) bool { return i.Count(least, most) == n }
	case 2:
		b := d.IntN(2) == 1
		return func(o *wire.Out) { o.Flag(b) }, func(i *wire.In) bool { return i.Flag() == b }
	case 3:
		s := string(d.raw(7))
		return func(o *wire.Out) { o.Mark(s) }, func(i *wire.In) bool { i.Mark(s); return i.Good() }
	}
	b := d.raw(40)
	return func(o *wire.Out) { o.Raw(b) }, func(i *wire.In) bool { return bytes.Equal(i.Raw(int64(len(b))), b) }
}

// Promise 10.3: what was written is read back, and every beginning of it is too short.
func TestReadBack(t *testing.T) {
	d := draw(1)
	for range 3000 {
		o := &wire.Out{}
		reads := []func(i *wire.In) bool{}
		ends := []int{}
		for range d.IntN(30) {
			write, read := d.pair()
			write(o)
			reads = append(reads, read)
			ends = append(ends, len(o.Bytes()))
		}
		b := o.Bytes()
		i := wire.NewIn(b)
		for k, read := range reads {
			if !read(i) || !i.Good() {
				t.Fatalf("word %d of % x is not read back", k, b)
			}
		}
		holdEnd(t, i, api.OK, 0)
		cut := d.IntN(len(b) + 1)
		i = wire.NewIn(b[:cut])
		for k, read := range reads {
			if good := read(i); ends[k] <= cut && !good {
				t.Fatalf("word %d of % x is not read back from its first %d bytes", k, b, cut)
			}
		}
		if cut < len(b) {
			holdDead(t, i, api.ErrShort, cut)
		}
	}
}

// model is another reading of bytes, by the library: what is left of them, where that begins, where the last word began, and the first error.
type model struct {
	left     []byte
	at, last int
	end      int
	err      api.Errno
	spot     int
}

// set sets an error if it is the first one.
func (m *model) set(err api.Errno, spot int) {
	if m.err == api.OK {
		m.err, m.spot = err, spot
	}
}

// cut reads a word, or raw bytes if it is told so; there is nothing behind an error.
func (m *model) cut(size int, word bool) ([]byte, bool) {
	if m.err == api.OK && size > len(m.left) {
		m.set(api.ErrShort, m.end)
	}
	if m.err != api.OK {
		return nil, false
	}
	b := m.left[:size]
	if word {
		m.last = m.at
	}
	m.left, m.at = m.left[size:], m.at+size
	return b, true
}

// step makes a drawn call of both, and tells what both answered.
func (d drawer) step(i *wire.In, m *model) (any, any) {
	switch d.IntN(12) {
	case 0, 1:
		want := int64(0)
		if b, ok := m.cut(8, true); ok {
			want = int64(binary.LittleEndian.Uint64(b))
		}
		return i.Num(), want
	case 2, 3, 4:
		least, most := d.IntN(3)-d.IntN(3), 1<<d.IntN(18)
		want := 0
		if b, ok := m.cut(2, true); ok {
			want = int(binary.LittleEndian.Uint16(b))
			if !(least <= want && want <= most) {
				m.set(api.ErrCount, m.last)
				want = 0
			}
		}
		return i.Count(least, most), want
	case 5, 6, 7:
		want := false
		if b, ok := m.cut(1, true); ok {
			want = b[0] == 1
			if b[0] != 0 && b[0] != 1 {
				m.set(api.ErrFlag, m.last)
			}
		}
		return i.Flag(), want
	case 8:
		s := string(m.left[:min(len(m.left), d.IntN(6))])
		if b, ok := m.cut(4, true); ok && string(b) != (s + "\x00\x00\x00\x00")[:4] {
			m.set(api.ErrMagic, m.last)
		}
		i.Mark(s)
		return nil, nil
	case 9, 10:
		n := int64(d.IntN(9))
		if d.IntN(20) == 0 {
			n = outside()[d.IntN(len(outside()))]
		}
		want := ""
		if n < 0 || n > 1<<24 {
			m.set(api.ErrCount, m.last)
		} else if b, ok := m.cut(int(n), false); ok {
			want = string(b)
		}
		return string(i.Raw(n)), want
	}
	if d.IntN(20) == 0 {
		err := api.Errno(d.IntN(3))
		m.set(max(err, api.ErrArg), m.last)
		i.Refuse(err)
	}
	return i.Good(), m.err == api.OK
}

// Promise 10.2: drawn bytes, read by drawn calls, as another reading reads them.
func TestDrawn(t *testing.T) {
	d := draw(2)
	seen := map[api.Errno]int{}
	for range 200000 {
		b := d.raw(1 + d.IntN(60))
		i, m := wire.NewIn(b), &model{left: b, end: len(b)}
		for range d.IntN(20) {
			if got, want := d.step(i, m); got != want {
				t.Fatalf("read %v, not %v, from % x", got, want, b)
			}
		}
		if len(m.left) > 0 {
			m.set(api.ErrMore, m.at)
		}
		holdEnd(t, i, m.err, m.spot)
		seen[m.err]++
	}
	for _, e := range []api.Errno{api.OK, api.ErrArg, api.ErrOver, api.ErrShort, api.ErrMagic, api.ErrCount, api.ErrMore, api.ErrFlag} {
		if seen[e] < 300 {
			t.Fatalf("error %d was drawn %d times", e, seen[e])
		}
	}
}

// Rule R5: reading some bytes changes nothing for another reading of them.
func TestReadingsApart(t *testing.T) {
	b := []byte{1, 2, 3, 4, 5, 6, 7, 8, 9}
	first, second := wire.NewIn(b), wire.NewIn(b)
	first.Num()
	first.Flag()
	holdDead(t, first, api.ErrFlag, 8)
	if n := second.Num(); n != 0x0807060504030201 || !second.Good() {
		t.Fatalf("Num read %x", n)
	}
	one, other := &wire.Out{}, &wire.Out{}
	one.Flag(true)
	other.Num(-1)
	if string(one.Bytes()) != "\x01" || len(other.Bytes()) != 8 {
		t.Fatalf("% x and % x", one.Bytes(), other.Bytes())
	}
}

// Rule R1: a zero In, which no function makes, reads nothing, and does not panic either.
func TestZeroIn(t *testing.T) {
	holdEnd(t, &wire.In{}, api.OK, 0)
	i := &wire.In{}
	i.Flag()
	holdDead(t, i, api.ErrShort, 0)
}
