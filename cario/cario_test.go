package cario_test

import (
	"bytes"
	"cmp"
	"encoding/binary"
	"encoding/hex"
	"math"
	"math/rand/v2"
	"reflect"
	"slices"
	"strings"
	"testing"

	"chicane/api"
	"chicane/car"
	"chicane/cario"
)

const (
	one      = api.One
	far      = api.One << 20 // the greatest size of a number of a table or a pane
	greatest = api.Fx(math.MaxInt64)
	least    = api.Fx(math.MinInt64)
)

// points makes a table's points of parts: an X and a Y each.
func points(n ...api.Fx) []api.Dot {
	l := []api.Dot{}
	for i := 0; i < len(n); i += 2 {
		l = append(l, api.Dot{X: n[i], Y: n[i+1]})
	}
	return l
}

// rising makes a table of so many points, all coordinates of which are different from each other and from those of other tables.
func rising(n int, from api.Fx) []api.Dot {
	l := []api.Dot{}
	for i := range api.Fx(n) {
		l = append(l, api.Dot{X: from + 2*i, Y: from + 2*i + 1})
	}
	return l
}

// grid makes a pane of so many columns and rows, all numbers of which are different.
func grid(columns, rows int, from api.Fx) api.Pane {
	p := api.Pane{}
	for k := range columns {
		p.Xs = append(p.Xs, from+api.Fx(k))
	}
	for i := range rows {
		p.Ys = append(p.Ys, from+100+api.Fx(i))
		values := []api.Fx{}
		for k := range columns {
			values = append(values, from+1000+api.Fx(columns*i+k))
		}
		p.Rows = append(p.Rows, values)
	}
	return p
}

// sized makes a valid car with lists of so many elements, of whose numbers no two are equal, so that none stands for another.
func sized(damper, columns, rows, torque, air, gears int) api.Car {
	next := api.Fx(0)
	near := func(n api.Fx) api.Fx { // a number near to n, which no other one is
		next++
		return n + next
	}
	c := api.Car{
		Mass: near(1000 * one), Inertia: api.V3{X: near(400 * one), Y: near(500 * one), Z: near(600 * one)}, Size: near(one), Bounce: near(0), Rub: near(0),
		Bars: [2]api.Fx{near(9000 * one), near(9000 * one)}, Damper: rising(damper, 10000), Tyre: grid(columns, rows, 20000),
		Torque: rising(torque, 30000), Air: rising(air, 40000),
		Side: near(one), Flywheel: near(one), Idle: near(90 * one), Top: near(900 * one), Friction: near(0), Clutch: near(40 * one), Hold: near(600 * one),
		Back: near(3 * one), Final: near(3 * one), Diff: api.Limited, Lock: near(100 * one), Limit: near(500 * one), Brake: near(3000 * one), Bias: near(0),
		Steer: 0x12345678, Rate: 0x6789abcd, EaseBrake: near(0), EaseDrive: near(0), ShiftUp: near(700 * one), ShiftDown: near(300 * one),
	}
	for i := range c.Wheels {
		c.Wheels[i] = api.Wheel{
			Hub: api.V3{X: -near(one), Y: near(one), Z: -near(0)}, Radius: near(one / 4), Inertia: near(3 * one),
			Spring: near(20000 * one), Travel: near(one / 8), Bump: near(90000 * one), Steer: i < 2, Drive: i > 0,
		}
	}
	for range gears {
		c.Gears = append(c.Gears, near(2*one))
	}
	return c
}

// mixed is a valid car with lists of different lengths.
func mixed() api.Car { return sized(3, 4, 5, 6, 7, 8) }

// small is a valid car with as little of everything as is allowed.
func small() api.Car { return sized(2, 2, 2, 2, 2, 1) }

// full is a valid car with as much of everything as is allowed.
func full() api.Car { return sized(32, 32, 32, 32, 32, 8) }

// samples are valid cars.
func samples() []api.Car {
	return []api.Car{small(), mixed(), sized(5, 2, 32, 2, 9, 1), sized(32, 32, 2, 2, 2, 4), full()}
}

// changed is a mixed car that a function has changed.
func changed(change func(c *api.Car)) api.Car {
	c := mixed()
	change(&c)
	return c
}

// spare is a list with an element behind its end.
func spare[E any](l []E, e E) []E { return append(slices.Clone(l), e)[:len(l)] }

// copied is a car with its own memory.
func copied(c api.Car) api.Car {
	c.Damper, c.Torque, c.Air, c.Gears = slices.Clone(c.Damper), slices.Clone(c.Torque), slices.Clone(c.Air), slices.Clone(c.Gears)
	c.Tyre = api.Pane{Xs: slices.Clone(c.Tyre.Xs), Ys: slices.Clone(c.Tyre.Ys), Rows: slices.Clone(c.Tyre.Rows)}
	for i, values := range c.Tyre.Rows {
		c.Tyre.Rows[i] = slices.Clone(values)
	}
	return c
}

// sort is a sort of word.
type sort string

const (
	mark   sort = "mark"
	number sort = "number"
	count  sort = "count"
	flag   sort = "flag"
	angle  sort = "angle" // a number that is an angle
)

// word is a word of an encoding: where it begins and ends, and the bounds of a count.
type word struct {
	sort      sort
	at, end   int
	low, high int
}

// sheet is bytes, written by the library, and their words.
type sheet struct {
	b     []byte
	words []word
}

// noted notes a word that was written from a position on.
func (s *sheet) noted(w sort, at, low, high int) {
	s.words = append(s.words, word{w, at, len(s.b), low, high})
}

func (s *sheet) count(low, high, n int) {
	at := len(s.b)
	s.b = binary.LittleEndian.AppendUint16(s.b, uint16(n))
	s.noted(count, at, low, high)
}

func (s *sheet) numbers(l ...api.Fx) {
	for _, n := range l {
		at := len(s.b)
		s.b = binary.LittleEndian.AppendUint64(s.b, uint64(n))
		s.noted(number, at, 0, 0)
	}
}

func (s *sheet) angle(n int64) {
	s.numbers(api.Fx(n))
	s.words[len(s.words)-1].sort = angle
}

func (s *sheet) flags(l ...bool) {
	for _, yes := range l {
		at := len(s.b)
		s.b = append(s.b, 0)
		if yes {
			s.b[at] = 1
		}
		s.noted(flag, at, 0, 0)
	}
}

func (s *sheet) table(l []api.Dot) {
	s.count(2, 32, len(l))
	for _, p := range l {
		s.numbers(p.X, p.Y)
	}
}

// written is the chapter's encoding, of any car, with numbers for Steer and Rate that may be no angles.
func written(c api.Car, steer, rate int64) *sheet {
	s := &sheet{b: []byte("CHCA")}
	s.noted(mark, 0, 0, 0)
	s.numbers(c.Mass, c.Inertia.X, c.Inertia.Y, c.Inertia.Z)
	for _, w := range c.Wheels {
		s.numbers(w.Hub.X, w.Hub.Y, w.Hub.Z, w.Radius, w.Inertia, w.Spring, w.Travel, w.Bump)
		s.flags(w.Steer, w.Drive)
	}
	s.numbers(c.Bars[0], c.Bars[1])
	s.table(c.Damper)
	s.count(2, 32, len(c.Tyre.Xs))
	s.count(2, 32, len(c.Tyre.Ys))
	s.numbers(c.Tyre.Xs...)
	s.numbers(c.Tyre.Ys...)
	for _, values := range c.Tyre.Rows {
		s.numbers(values...)
	}
	s.table(c.Torque)
	s.table(c.Air)
	s.numbers(c.Side, c.Flywheel, c.Idle, c.Top, c.Friction, c.Clutch, c.Hold, c.Back)
	s.count(1, 8, len(c.Gears))
	s.numbers(c.Gears...)
	s.numbers(c.Final)
	s.count(0, 2, c.Diff)
	s.numbers(c.Lock, c.Limit, c.Brake, c.Bias)
	s.angle(steer)
	s.angle(rate)
	s.numbers(c.Size, c.Bounce, c.Rub, c.EaseBrake, c.EaseDrive, c.ShiftUp, c.ShiftDown)
	return s
}

// encoding is the chapter's encoding of a car.
func encoding(c api.Car) *sheet { return written(c, int64(c.Steer), int64(c.Rate)) }

// found is an error and its position.
type found struct {
	err api.Errno
	at  int
}

// reading is another reading of bytes, which panics with the first error.
type reading struct {
	b  []byte
	at int
}

func (r *reading) word(size int) []byte {
	if len(r.b) < r.at+size {
		panic(found{api.ErrShort, len(r.b)})
	}
	r.at += size
	return r.b[r.at-size : r.at]
}

func (r *reading) count(low, high int) int {
	n := int(binary.LittleEndian.Uint16(r.word(2)))
	if n < low || n > high {
		panic(found{api.ErrCount, r.at - 2})
	}
	return n
}

func (r *reading) number() api.Fx { return api.Fx(binary.LittleEndian.Uint64(r.word(8))) }

func (r *reading) numbers(n int) []api.Fx {
	l := make([]api.Fx, n)
	for i := range l {
		l[i] = r.number()
	}
	return l
}

func (r *reading) angle() api.Turn {
	n := r.number()
	if n < 0 || n > 1<<32-1 {
		panic(found{api.ErrRange, r.at - 8})
	}
	return api.Turn(n)
}

func (r *reading) flag() bool {
	switch r.word(1)[0] {
	case 0:
		return false
	case 1:
		return true
	}
	panic(found{api.ErrFlag, r.at - 1})
}

func (r *reading) table() []api.Dot { return points(r.numbers(2 * r.count(2, 32))...) }

func (r *reading) wheel() api.Wheel {
	l := r.numbers(8)
	w := api.Wheel{Hub: api.V3{X: l[0], Y: l[1], Z: l[2]}, Radius: l[3], Inertia: l[4], Spring: l[5], Travel: l[6], Bump: l[7]}
	w.Steer = r.flag()
	w.Drive = r.flag()
	return w
}

func (r *reading) pane() api.Pane {
	columns := r.count(2, 32)
	rows := r.count(2, 32)
	p := api.Pane{Xs: r.numbers(columns)}
	p.Ys = r.numbers(rows)
	for range rows {
		p.Rows = append(p.Rows, r.numbers(columns))
	}
	return p
}

func (r *reading) car() api.Car {
	c := api.Car{}
	if string(r.word(4)) != "CHCA" {
		panic(found{api.ErrMagic, 0})
	}
	l := r.numbers(4)
	c.Mass, c.Inertia = l[0], api.V3{X: l[1], Y: l[2], Z: l[3]}
	for i := range c.Wheels {
		c.Wheels[i] = r.wheel()
	}
	c.Bars = [2]api.Fx(r.numbers(2))
	c.Damper = r.table()
	c.Tyre = r.pane()
	c.Torque = r.table()
	c.Air = r.table()
	l = r.numbers(8)
	c.Side, c.Flywheel, c.Idle, c.Top, c.Friction, c.Clutch, c.Hold, c.Back = l[0], l[1], l[2], l[3], l[4], l[5], l[6], l[7]
	c.Gears = r.numbers(r.count(1, 8))
	c.Final = r.number()
	c.Diff = r.count(0, 2)
	l = r.numbers(4)
	c.Lock, c.Limit, c.Brake, c.Bias = l[0], l[1], l[2], l[3]
	c.Steer = r.angle()
	c.Rate = r.angle()
	l = r.numbers(7)
	c.Size, c.Bounce, c.Rub, c.EaseBrake, c.EaseDrive, c.ShiftUp, c.ShiftDown = l[0], l[1], l[2], l[3], l[4], l[5], l[6]
	return c
}

// reckon reckons what is to be decoded.
func reckon(b []byte) (c api.Car, f found) {
	defer func() {
		if e := recover(); e != nil {
			c, f = api.Car{}, e.(found)
		}
	}()
	r := reading{b: b}
	c = r.car()
	if r.at < len(b) {
		panic(found{api.ErrMore, r.at})
	}
	if err, _ := car.Right(c); err != api.OK {
		panic(found{err, len(b)})
	}
	return c, found{}
}

// holdFault holds an error and its position, and that there is no car beside it.
func holdFault(t *testing.T, b []byte, want api.Errno, at int) {
	t.Helper()
	c, err, where := cario.Decode(b)
	if err != want || where != at {
		t.Fatalf("Decode(%x) = %d, %d, not %d, %d", b[:min(len(b), 1000)], err, where, want, at)
	}
	if !reflect.DeepEqual(c, api.Car{}) {
		t.Fatalf("Decode(%x) tells a car beside the error %d: %v", b[:min(len(b), 1000)], err, c)
	}
}

// holdCar holds that bytes are those of a car, both ways.
func holdCar(t *testing.T, b []byte, want api.Car) {
	t.Helper()
	got, err, at := cario.Decode(b)
	if err != api.OK || at != 0 || !reflect.DeepEqual(got, want) {
		t.Fatalf("Decode(%x) = %v, %d, %d, not %v", b[:min(len(b), 1000)], got, err, at, want)
	}
	for _, c := range []api.Car{got, want} {
		if again, err := cario.Encode(c); err != api.OK || !bytes.Equal(again, b) {
			t.Fatalf("Encode(%v) = %x, %d, not %x", c, again[:min(len(again), 1000)], err, b[:min(len(b), 1000)])
		}
	}
}

// holdReckoned holds bytes as another reading reads them, and that they stay as they are.
func holdReckoned(t *testing.T, b []byte) found {
	t.Helper()
	before := slices.Clone(b)
	want, f := reckon(b)
	if f.err == api.OK {
		holdCar(t, b, want)
	} else {
		holdFault(t, b, f.err, f.at)
	}
	if !bytes.Equal(before, b) {
		t.Fatalf("the bytes %x are now %x", before, b)
	}
	return f
}

// holdWrong holds that a car has no bytes.
func holdWrong(t *testing.T, c api.Car, want api.Errno) {
	t.Helper()
	if b, err := cario.Encode(c); err != want || len(b) != 0 {
		t.Fatalf("Encode(%v) = %x, %d, not %d", c, b[:min(len(b), 1000)], err, want)
	}
}

// poked is bytes with others from a position on.
func poked(b []byte, at int, with ...byte) []byte {
	b = slices.Clone(b)
	copy(b[at:], with)
	return b
}

// pokedCount is bytes with another count at a position.
func pokedCount(b []byte, at, n int) []byte { return poked(b, at, byte(n), byte(n>>8)) }

// pokedNumber is bytes with another number at a position.
func pokedNumber(b []byte, at int, n int64) []byte {
	return poked(b, at, binary.LittleEndian.AppendUint64(nil, uint64(n))...)
}

// spoilt is bytes with a word that may not be, and the error of it: of a number that is no angle, that of car.Right at the end of the bytes.
func spoilt(b []byte, w word) ([]byte, found) {
	switch w.sort {
	case mark:
		return poked(b, w.at, 'c'), found{api.ErrMagic, w.at}
	case count:
		return pokedCount(b, w.at, w.high+1), found{api.ErrCount, w.at}
	case flag:
		return poked(b, w.at, 2), found{api.ErrFlag, w.at}
	case angle:
		return pokedNumber(b, w.at, 1<<32), found{api.ErrRange, w.at}
	}
	return pokedNumber(b, w.at, math.MinInt64), found{api.ErrRange, len(b)}
}

// plain is a valid car of numbers whose bytes are easily written by hand: what is lowest in each tells which number it is.
func plain() api.Car {
	tall := func(n, k api.Fx) api.Fx { return n*one + k }
	rim := func(k api.Fx) api.Wheel {
		return api.Wheel{Hub: api.V3{X: -k, Y: k + 1, Z: k + 2}, Radius: tall(1, 0), Inertia: tall(1, k+3), Spring: tall(1024, k+4), Travel: 1<<30 + k, Bump: k + 5}
	}
	c := api.Car{
		Mass: tall(64, 1), Inertia: api.V3{X: tall(16, 2), Y: tall(16, 3), Z: tall(16, 4)},
		Wheels: [4]api.Wheel{rim(0x10), rim(0x20), rim(0x30), rim(0x40)}, Bars: [2]api.Fx{0x50, 0x51},
		Damper: points(-0x60, -0x61, 0x62, 0x63),
		Tyre:   api.Pane{Xs: []api.Fx{0x70, 0x71}, Ys: []api.Fx{0x72, 0x73, 0x74}, Rows: [][]api.Fx{{0x75, 0x76}, {0x77, 0x78}, {0x79, 0x7a}}},
		Torque: points(-0x80, 0x81, 0x82, -0x83), Air: points(0x84, 0x85, 0x86, 0x87, 0x88, 0x89),
		Side: 0x90, Flywheel: tall(1, 0x91), Idle: tall(32, 0x92), Top: tall(64, 0x93), Friction: 0x94, Clutch: tall(1, 0x95), Hold: 0x96, Back: tall(1, 0x97),
		Gears: []api.Fx{tall(2, 0x98), tall(1, 0x99)}, Final: tall(1, 0x9a), Diff: api.Locked,
		Lock: 0xa0, Limit: 0xa1, Brake: 0xa2, Bias: 0xa3, Steer: 0x1a2b3c4d, Rate: 0x5e6f7081,
		Size: tall(1, 0xb0), Bounce: 0xb1, Rub: 0xb2, EaseBrake: 0xb3, EaseDrive: 0xb4, ShiftUp: tall(5, 0xb5), ShiftDown: tall(4, 0xb6),
	}
	c.Wheels[0].Steer, c.Wheels[1].Steer, c.Wheels[1].Drive, c.Wheels[2].Drive = true, true, true, true
	return c
}

// Promise 18.1: each word of a small car, by hand.
func TestEncodeByHand(t *testing.T) {
	hand := []string{
		"43484341", "0100000040000000", "0200000010000000", "0300000010000000", "0400000010000000",
		"f0ffffffffffffff", "1100000000000000", "1200000000000000", "0000000001000000", "1300000001000000", "1400000000040000", "1000004000000000", "1500000000000000", "01", "00",
		"e0ffffffffffffff", "2100000000000000", "2200000000000000", "0000000001000000", "2300000001000000", "2400000000040000", "2000004000000000", "2500000000000000", "01", "01",
		"d0ffffffffffffff", "3100000000000000", "3200000000000000", "0000000001000000", "3300000001000000", "3400000000040000", "3000004000000000", "3500000000000000", "00", "01",
		"c0ffffffffffffff", "4100000000000000", "4200000000000000", "0000000001000000", "4300000001000000", "4400000000040000", "4000004000000000", "4500000000000000", "00", "00",
		"5000000000000000", "5100000000000000",
		"0200", "a0ffffffffffffff", "9fffffffffffffff", "6200000000000000", "6300000000000000",
		"0200", "0300", "7000000000000000", "7100000000000000", "7200000000000000", "7300000000000000", "7400000000000000",
		"7500000000000000", "7600000000000000", "7700000000000000", "7800000000000000", "7900000000000000", "7a00000000000000",
		"0200", "80ffffffffffffff", "8100000000000000", "8200000000000000", "7dffffffffffffff",
		"0300", "8400000000000000", "8500000000000000", "8600000000000000", "8700000000000000", "8800000000000000", "8900000000000000",
		"9000000000000000", "9100000001000000", "9200000020000000", "9300000040000000", "9400000000000000", "9500000001000000", "9600000000000000", "9700000001000000",
		"0200", "9800000002000000", "9900000001000000", "9a00000001000000", "0100",
		"a000000000000000", "a100000000000000", "a200000000000000", "a300000000000000", "4d3c2b1a00000000", "81706f5e00000000",
		"b000000001000000", "b100000000000000", "b200000000000000", "b300000000000000", "b400000000000000", "b500000005000000", "b600000004000000",
	}
	want, err := hex.DecodeString(strings.Join(hand, ""))
	if err != nil {
		t.Fatal(err)
	}
	holdCar(t, want, plain())
}

// Promises 18.1 and 18.2: the chapter's examples.
func TestExamples(t *testing.T) {
	holdWrong(t, changed(func(c *api.Car) { c.Diff = 9 }), api.ErrRange)
	holdFault(t, nil, api.ErrShort, 0)
	holdFault(t, []byte{}, api.ErrShort, 0)
	for _, c := range samples() {
		holdFault(t, encoding(c).b[:100], api.ErrShort, 100)
	}
}

// No two numbers of a mixed car are equal, nor two counts, so that no word stands for another in the tests below; flags are told apart by TestFlags.
func TestMixed(t *testing.T) {
	s := encoding(mixed())
	seen := map[string]int{}
	for _, w := range s.words {
		if w.sort != flag {
			seen[string(s.b[w.at:w.end])]++
		}
	}
	for k, n := range seen {
		if n > 1 {
			t.Errorf("%d words %x", n, k)
		}
	}
	if numbers := 4 + 4*8 + 2 + 2*(3+6+7) + 4 + 5 + 4*5 + 8 + 8 + 1 + 4 + 2 + 7; len(seen) != 1+numbers+7 {
		t.Error(len(seen), "words")
	}
}

// Promises 18.1 and 18.3: valid cars with lists of every length have the bytes that the library writes, and come back from them.
func TestThereAndBack(t *testing.T) {
	cars := append(samples(), plain())
	for n := 2; n <= 32; n++ {
		cars = append(cars, sized(n, 2, 3, 4, 5, 6), sized(2, n, 3, 4, 5, 6), sized(2, 3, n, 4, 5, 6), sized(2, 3, 4, n, 5, 6), sized(2, 3, 4, 5, n, 6), sized(n, n, n, n, n, 1))
	}
	for n := 1; n <= 8; n++ {
		cars = append(cars, sized(2, 3, 4, 5, 6, n))
	}
	for _, c := range cars {
		if err, at := car.Right(c); err != api.OK {
			t.Fatalf("a sample has the error %d at %d", err, at)
		}
		s := encoding(c)
		holdCar(t, s.b, c)
		if want := 506 + 16*(len(c.Damper)+len(c.Torque)+len(c.Air)) + 8*(len(c.Tyre.Xs)+len(c.Tyre.Ys)+len(c.Tyre.Xs)*len(c.Tyre.Ys)+len(c.Gears)); len(s.b) != want {
			t.Fatalf("%d bytes, not %d", len(s.b), want)
		}
	}
}

// slot is one of the numbers of an easy car: where its word begins, the bounds between which it may be there, and where it is.
type slot struct {
	name      string
	at        int
	low, high api.Fx
	of        func(c *api.Car) *api.Fx
}

// easy is a small car whose numbers leave each other as much room as there may be.
func easy() api.Car {
	c := small()
	c.Damper = points(-one, -2*one, 3*one, 4*one)
	c.Tyre = api.Pane{Xs: []api.Fx{5 * one, 6 * one}, Ys: []api.Fx{7 * one, 8 * one}, Rows: [][]api.Fx{{one + 1, one + 2}, {one + 3, one + 4}}}
	c.Torque, c.Air = points(9*one, 10*one, 11*one, 12*one), points(13*one, 14*one, 15*one, 16*one)
	c.Idle, c.Top, c.ShiftDown, c.ShiftUp = 50*one, 1000*one, 0, 2048*one
	return c
}

// wheelSlots are the numbers of a wheel.
func wheelSlots(i int) []slot {
	at := 36 + 66*i
	w := func(of func(w *api.Wheel) *api.Fx) func(c *api.Car) *api.Fx {
		return func(c *api.Car) *api.Fx { return of(&c.Wheels[i]) }
	}
	return []slot{
		{"Hub.X", at, -4 * one, 4 * one, w(func(w *api.Wheel) *api.Fx { return &w.Hub.X })},
		{"Hub.Y", at + 8, -4 * one, 4 * one, w(func(w *api.Wheel) *api.Fx { return &w.Hub.Y })},
		{"Hub.Z", at + 16, -2 * one, 2 * one, w(func(w *api.Wheel) *api.Fx { return &w.Hub.Z })},
		{"Radius", at + 24, one / 8, one, w(func(w *api.Wheel) *api.Fx { return &w.Radius })},
		{"wheel's Inertia", at + 32, one / 8, 64 * one, w(func(w *api.Wheel) *api.Fx { return &w.Inertia })},
		{"Spring", at + 40, 1024 * one, one << 18, w(func(w *api.Wheel) *api.Fx { return &w.Spring })},
		{"Travel", at + 48, one / 64, one / 2, w(func(w *api.Wheel) *api.Fx { return &w.Travel })},
		{"Bump", at + 56, 0, one << 20, w(func(w *api.Wheel) *api.Fx { return &w.Bump })},
	}
}

// bodySlots are the numbers of the body and the bars.
func bodySlots() []slot {
	return []slot{
		{"Mass", 4, 64 * one, 8192 * one, func(c *api.Car) *api.Fx { return &c.Mass }},
		{"Inertia.X", 12, 16 * one, 65536 * one, func(c *api.Car) *api.Fx { return &c.Inertia.X }},
		{"Inertia.Y", 20, 16 * one, 65536 * one, func(c *api.Car) *api.Fx { return &c.Inertia.Y }},
		{"Inertia.Z", 28, 16 * one, 65536 * one, func(c *api.Car) *api.Fx { return &c.Inertia.Z }},
		{"Bars[0]", 300, 0, one << 17, func(c *api.Car) *api.Fx { return &c.Bars[0] }},
		{"Bars[1]", 308, 0, one << 17, func(c *api.Car) *api.Fx { return &c.Bars[1] }},
	}
}

// listSlots are the numbers of the tables and of the pane.
func listSlots() []slot {
	return []slot{
		{"Damper[0].X", 318, -far, 0, func(c *api.Car) *api.Fx { return &c.Damper[0].X }},
		{"Damper[0].Y", 326, -one << 15, 0, func(c *api.Car) *api.Fx { return &c.Damper[0].Y }},
		{"Damper[1].X", 334, 0, far, func(c *api.Car) *api.Fx { return &c.Damper[1].X }},
		{"Damper[1].Y", 342, 0, one << 15, func(c *api.Car) *api.Fx { return &c.Damper[1].Y }},
		{"Xs[0]", 354, 0, 6*one - 1, func(c *api.Car) *api.Fx { return &c.Tyre.Xs[0] }},
		{"Xs[1]", 362, 5*one + 1, far, func(c *api.Car) *api.Fx { return &c.Tyre.Xs[1] }},
		{"Ys[0]", 370, 0, 8*one - 1, func(c *api.Car) *api.Fx { return &c.Tyre.Ys[0] }},
		{"Ys[1]", 378, 7*one + 1, far, func(c *api.Car) *api.Fx { return &c.Tyre.Ys[1] }},
		{"Rows[0][0]", 386, 0, 4 * one, func(c *api.Car) *api.Fx { return &c.Tyre.Rows[0][0] }},
		{"Rows[0][1]", 394, 0, 4 * one, func(c *api.Car) *api.Fx { return &c.Tyre.Rows[0][1] }},
		{"Rows[1][0]", 402, 0, 4 * one, func(c *api.Car) *api.Fx { return &c.Tyre.Rows[1][0] }},
		{"Rows[1][1]", 410, 0, 4 * one, func(c *api.Car) *api.Fx { return &c.Tyre.Rows[1][1] }},
		{"Torque[0].X", 420, -far, 11*one - 1, func(c *api.Car) *api.Fx { return &c.Torque[0].X }},
		{"Torque[0].Y", 428, -4096 * one, 4096 * one, func(c *api.Car) *api.Fx { return &c.Torque[0].Y }},
		{"Torque[1].X", 436, 9*one + 1, far, func(c *api.Car) *api.Fx { return &c.Torque[1].X }},
		{"Torque[1].Y", 444, -4096 * one, 4096 * one, func(c *api.Car) *api.Fx { return &c.Torque[1].Y }},
		{"Air[0].X", 454, -far, 15*one - 1, func(c *api.Car) *api.Fx { return &c.Air[0].X }},
		{"Air[0].Y", 462, 0, one << 15, func(c *api.Car) *api.Fx { return &c.Air[0].Y }},
		{"Air[1].X", 470, 13*one + 1, far, func(c *api.Car) *api.Fx { return &c.Air[1].X }},
		{"Air[1].Y", 478, 0, one << 15, func(c *api.Car) *api.Fx { return &c.Air[1].Y }},
	}
}

// driveSlots are the numbers behind the tables.
func driveSlots() []slot {
	return []slot{
		{"Side", 486, 0, 4 * one, func(c *api.Car) *api.Fx { return &c.Side }},
		{"Flywheel", 494, one / 64, 16 * one, func(c *api.Car) *api.Fx { return &c.Flywheel }},
		{"Idle", 502, 32 * one, 512 * one, func(c *api.Car) *api.Fx { return &c.Idle }},
		{"Top", 510, 64 * one, 2048 * one, func(c *api.Car) *api.Fx { return &c.Top }},
		{"Friction", 518, 0, one, func(c *api.Car) *api.Fx { return &c.Friction }},
		{"Clutch", 526, one, 256 * one, func(c *api.Car) *api.Fx { return &c.Clutch }},
		{"Hold", 534, 0, 4096 * one, func(c *api.Car) *api.Fx { return &c.Hold }},
		{"Back", 542, one / 4, 32 * one, func(c *api.Car) *api.Fx { return &c.Back }},
		{"Gears[0]", 552, one / 4, 32 * one, func(c *api.Car) *api.Fx { return &c.Gears[0] }},
		{"Final", 560, one / 2, 16 * one, func(c *api.Car) *api.Fx { return &c.Final }},
		{"Lock", 570, 0, 65536 * one, func(c *api.Car) *api.Fx { return &c.Lock }},
		{"Limit", 578, 0, 16384 * one, func(c *api.Car) *api.Fx { return &c.Limit }},
		{"Brake", 586, 0, 16384 * one, func(c *api.Car) *api.Fx { return &c.Brake }},
		{"Bias", 594, 0, one, func(c *api.Car) *api.Fx { return &c.Bias }},
		{"Size", 618, one / 2, 4 * one, func(c *api.Car) *api.Fx { return &c.Size }},
		{"Bounce", 626, 0, one, func(c *api.Car) *api.Fx { return &c.Bounce }},
		{"Rub", 634, 0, one, func(c *api.Car) *api.Fx { return &c.Rub }},
		{"EaseBrake", 642, 0, 4 * one, func(c *api.Car) *api.Fx { return &c.EaseBrake }},
		{"EaseDrive", 650, 0, 4 * one, func(c *api.Car) *api.Fx { return &c.EaseDrive }},
		{"ShiftUp", 658, 1, 2048 * one, func(c *api.Car) *api.Fx { return &c.ShiftUp }},
		{"ShiftDown", 666, 0, 2048*one - 1, func(c *api.Car) *api.Fx { return &c.ShiftDown }},
	}
}

// slots are all numbers of an easy car but for the angles.
func slots() []slot {
	l := slices.Concat(bodySlots(), listSlots(), driveSlots())
	for i := range 4 {
		l = append(l, wheelSlots(i)...)
	}
	return l
}

// Promises 18.1 to 18.3: each number has its own place: with another number there eight bytes change at most, all of them of its word, and nothing of the car but it. It is held at both ends of its range, within it, and a part and more beyond, where car.Right's error is that of the car.
func TestNumberPlaces(t *testing.T) {
	l := slots()
	if len(l) != 79 {
		t.Fatal(len(l), "numbers")
	}
	base := encoding(easy()).b
	for _, k := range l {
		for _, n := range []api.Fx{k.low, k.low + 1, k.low/2 + k.high/2, k.high - 1, k.high} {
			c := easy()
			*k.of(&c) = n
			holdCar(t, pokedNumber(base, k.at, int64(n)), c)
		}
		for _, n := range []api.Fx{k.low - 1, k.high + 1, 2*k.high + 1, -k.high - 1, far + 1, -far - 1, least, least + 1, greatest} {
			c := easy()
			*k.of(&c) = n
			err, _ := car.Right(c)
			if (err == api.OK) != (k.low <= n && n <= k.high) {
				t.Fatalf("%s: %d tells %d", k.name, n, err)
			}
			if err != api.OK {
				holdWrong(t, c, err)
				holdFault(t, pokedNumber(base, k.at, int64(n)), err, len(base))
			}
		}
	}
}

// Promise 18.1: a number has eight bytes, however small it is: with fewer of them, or with one more, the bytes are those of no car.
func TestNumbersInFewerBytes(t *testing.T) {
	base := encoding(easy()).b
	for _, k := range slots() {
		c := easy()
		*k.of(&c) = min(max(k.low, 0), k.high)
		b := encoding(c).b
		if len(b) != len(base) {
			t.Fatalf("%s: %d bytes", k.name, len(b))
		}
		holdCar(t, b, c)
		for size := range 8 {
			fewer := slices.Delete(slices.Clone(b), k.at+size, k.at+8)
			if f := holdReckoned(t, fewer); f.err == api.OK {
				t.Fatalf("%s: %d bytes are a number", k.name, size)
			}
			more := slices.Insert(slices.Clone(b), k.at+size, 0)
			if f := holdReckoned(t, more); f.err == api.OK {
				t.Fatalf("%s: nine bytes are a number", k.name)
			}
		}
	}
	for _, at := range []int{602, 610} {
		for size := range 8 {
			if f := holdReckoned(t, slices.Delete(slices.Clone(base), at+size, at+8)); f.err == api.OK {
				t.Fatalf("%d bytes are an angle", size)
			}
		}
	}
}

// Promises 18.1 and 18.2: any two words of one size that differ may not be exchanged: the bytes would be others, and another car or none.
func TestExchanged(t *testing.T) {
	s := encoding(mixed())
	for i, a := range s.words {
		for _, b := range s.words[i+1:] {
			if a.end-a.at != b.end-b.at || bytes.Equal(s.b[a.at:a.end], s.b[b.at:b.end]) {
				continue
			}
			other := poked(poked(s.b, a.at, s.b[b.at:b.end]...), b.at, s.b[a.at:a.end]...)
			if f := holdReckoned(t, other); f.err == api.OK {
				if c, _, _ := cario.Decode(other); reflect.DeepEqual(c, mixed()) {
					t.Fatalf("the words at %d and %d may be exchanged", a.at, b.at)
				}
			}
		}
	}
}

// Promise 18.2: an encoding that is cut off behind any of its bytes is too short.
func TestDecodeCut(t *testing.T) {
	for _, c := range samples() {
		b := encoding(c).b
		for n := range b {
			holdFault(t, b[:n], api.ErrShort, n)
		}
		for n := 0; n < len(b); n += 29 {
			holdFault(t, slices.Clip(b[:n]), api.ErrShort, n)
		}
	}
}

// Promise 18.2: bytes behind the end, of a car that is valid and of one that is not.
func TestDecodeMore(t *testing.T) {
	bad := changed(func(c *api.Car) { c.ShiftUp = c.ShiftDown })
	for _, c := range append(samples(), bad) {
		b := encoding(c).b
		for _, more := range [][]byte{{0}, {1}, {255}, {0, 0}, []byte("CHCA"), make([]byte, 1000), b} {
			holdFault(t, append(slices.Clone(b), more...), api.ErrMore, len(b))
		}
	}
}

// Promise 18.2: a mark that is another one, by each byte and each bit, whole or too short, with and without what follows.
func TestDecodeMark(t *testing.T) {
	b := encoding(mixed()).b
	for i := range 4 {
		for bit := range 8 {
			other := poked(b, i, b[i]^1<<bit)
			holdFault(t, other, api.ErrMagic, 0)
			holdFault(t, other[:4], api.ErrMagic, 0)
			holdFault(t, other[:3], api.ErrShort, 3)
		}
	}
	for _, s := range []string{"CHTR", "ACHC", "chca", "\x00\x00\x00\x00", "CHC\x00"} {
		holdFault(t, poked(b, 0, []byte(s)...), api.ErrMagic, 0)
		holdFault(t, []byte(s), api.ErrMagic, 0)
	}
	holdFault(t, append([]byte{0}, b...), api.ErrMagic, 0)
	holdFault(t, b[1:], api.ErrMagic, 0)
	holdFault(t, []byte("CHCA"), api.ErrShort, 4)
}

// counts are values of a count, among them all of the ranges and about them.
func counts(low, high int) []int {
	l := []int{255, 256, 257, 1 << 15, 1<<16 - 1, low + 256, high + 256, low << 8, high << 8, 1023, 1024, 1025}
	for n := range 70 {
		l = append(l, n)
	}
	return append(l, high+1, high+2)
}

// Promise 18.2: every count is refused at its word unless it is within its bounds, whatever follows.
func TestDecodeCounts(t *testing.T) {
	for _, c := range []api.Car{small(), mixed(), full()} {
		s := encoding(c)
		seen := 0
		for _, w := range s.words {
			if w.sort != count {
				continue
			}
			seen++
			for _, n := range counts(w.low, w.high) {
				got := holdReckoned(t, pokedCount(s.b, w.at, n))
				if refused := got == (found{api.ErrCount, w.at}); refused != (n < w.low || n > w.high) {
					t.Fatalf("the count %d at %d tells %v", n, w.at, got)
				}
			}
		}
		if seen != 7 {
			t.Fatal(seen, "counts")
		}
	}
}

// counted is a count of a car: its bounds, the error of a car beyond them, and a car of which it is as it is told, all else fitting it, with its position.
type counted struct {
	name      string
	low, high int
	err       api.Errno
	build     func(n int) (api.Car, int)
}

func countedList() []counted {
	diff := func(n int) (api.Car, int) {
		c := small()
		c.Diff = n
		return c, 568
	}
	return []counted{
		{"Damper", 2, 32, api.ErrShape, func(n int) (api.Car, int) { return sized(n, 2, 2, 2, 2, 1), 316 }},
		{"Xs", 2, 32, api.ErrShape, func(n int) (api.Car, int) { return sized(2, n, 2, 2, 2, 1), 350 }},
		{"Ys", 2, 32, api.ErrShape, func(n int) (api.Car, int) { return sized(2, 2, n, 2, 2, 1), 352 }},
		{"Torque", 2, 32, api.ErrShape, func(n int) (api.Car, int) { return sized(2, 2, 2, n, 2, 1), 418 }},
		{"Air", 2, 32, api.ErrShape, func(n int) (api.Car, int) { return sized(2, 2, 2, 2, n, 1), 452 }},
		{"Gears", 1, 8, api.ErrShape, func(n int) (api.Car, int) { return sized(2, 2, 2, 2, 2, n), 550 }},
		{"Diff", 0, 2, api.ErrRange, diff},
	}
}

// Promises 18.1 to 18.3: each count at both of its bounds and one beyond either, with as much behind it as it tells.
func TestCountBounds(t *testing.T) {
	for _, k := range countedList() {
		for n := k.low; n <= k.high; n++ {
			c, at := k.build(n)
			b := encoding(c).b
			holdCar(t, b, c)
			if int(b[at]) != n || b[at+1] != 0 {
				t.Fatalf("%s: the word is %x, not %d", k.name, b[at:at+2], n)
			}
		}
		for _, n := range []int{k.low - 1, k.high + 1, k.high + 2, 0, 256 + k.low, 300} {
			if n < 0 || k.low <= n && n <= k.high {
				continue
			}
			c, at := k.build(n)
			holdWrong(t, c, k.err)
			holdFault(t, encoding(c).b, api.ErrCount, at)
		}
	}
	// Differentials that no word can tell are wrong in a car, though their lowest 16 bits would be right.
	for _, n := range []int{-1, -2, 1 << 16, 1<<16 + 1, -1 << 16, 1 << 32, 1<<32 + 2, -1 << 62, math.MinInt, math.MaxInt} {
		holdWrong(t, changed(func(c *api.Car) { c.Diff = n }), api.ErrRange)
	}
}

// Promise 18.2: a pane's counts are both ahead of all of its numbers, and its values are told row by row.
func TestPaneWords(t *testing.T) {
	for columns := 2; columns <= 32; columns += 6 {
		for rows := 2; rows <= 32; rows += 5 {
			c := sized(2, columns, rows, 2, 2, 1)
			b := encoding(c).b
			holdCar(t, b, c)
			holdFault(t, pokedCount(pokedCount(b, 350, 1), 352, 1), api.ErrCount, 350)
			holdFault(t, pokedCount(pokedCount(b, 350, 33), 352, 33), api.ErrCount, 350)
			holdFault(t, pokedCount(b, 352, 33)[:354], api.ErrCount, 352)
			holdFault(t, b[:353], api.ErrShort, 353)
			for i := range rows {
				for k := range columns {
					at := 354 + 8*(columns+rows+i*columns+k)
					c := copied(c)
					c.Tyre.Rows[i][k] = 4*one - api.Fx(i)
					holdCar(t, pokedNumber(b, at, int64(4*one)-int64(i)), c)
				}
			}
			if columns != rows {
				holdReckoned(t, pokedCount(pokedCount(b, 350, rows), 352, columns))
			}
		}
	}
}

// holdAngles holds a car with words for Steer and Rate: what is to be told, and where.
func holdAngles(t *testing.T, steer, rate int64, want found) {
	t.Helper()
	for _, c := range []api.Car{small(), mixed(), full()} {
		b := written(c, steer, rate).b
		steerAt, rateAt := len(b)-8*9, len(b)-8*8
		where := map[int]int{0: 0, 1: steerAt, 2: rateAt, 3: len(b)}[want.at]
		if want.err != api.OK {
			holdFault(t, b, want.err, where)
			continue
		}
		c.Steer, c.Rate = api.Turn(steer), api.Turn(rate)
		holdCar(t, b, c)
	}
}

// Promises 18.1 to 18.3: the words of Steer and Rate at 0, at 2^32 - 1, between them, and beyond either; what is an angle, but too great for a car, is refused at the end.
func TestAngles(t *testing.T) {
	atSteer, atRate, atEnd := found{api.ErrRange, 1}, found{api.ErrRange, 2}, found{api.ErrRange, 3}
	for _, n := range []int64{0, 1, 255, 256, 1 << 16, 1<<29 - 1, 1 << 29} {
		holdAngles(t, n, 77, found{})
		holdAngles(t, 77, n, found{})
	}
	for _, n := range []int64{1<<29 + 1, 1 << 30, 1<<31 - 1, 1 << 31} {
		holdAngles(t, n, 77, atEnd)
		holdAngles(t, 77, n, found{})
	}
	for _, n := range []int64{1<<31 + 1, 3 << 30, 1<<32 - 2, 1<<32 - 1} {
		holdAngles(t, n, 77, atEnd)
		holdAngles(t, 77, n, atEnd)
		holdAngles(t, n, n, atEnd)
	}
	for _, n := range []int64{-1, 1 << 32, -2, 1<<32 + 1, 1<<32 + 77, -1 << 32, -1<<32 + 5, 1<<33 + 5, 1 << 62, -1 << 62, -1 << 31, 1<<40 + 1, math.MaxInt64, math.MinInt64} {
		holdAngles(t, n, 77, atSteer)
		holdAngles(t, 77, n, atRate)
		holdAngles(t, n, -n, atSteer)
		holdAngles(t, n, 1<<32-1, atSteer)
		holdAngles(t, 1<<32-1, n, atRate)
	}
	holdWrong(t, changed(func(c *api.Car) { c.Steer = math.MaxUint32 }), api.ErrRange)
	holdWrong(t, changed(func(c *api.Car) { c.Rate = math.MaxUint32 }), api.ErrRange)
}

// Promise 18.2: an angle is refused ahead of what is behind it, and behind what is ahead of it.
func TestAnglesAmongOthers(t *testing.T) {
	for i := range int64(2) {
		for _, n := range []int64{-1, 1 << 32, math.MinInt64} {
			b := encoding(small()).b
			at := 602 + 8*int(i)
			b = pokedNumber(b, at, n)
			holdFault(t, b[:len(b)-1], api.ErrRange, at)
			holdFault(t, b[:at+8], api.ErrRange, at)
			holdFault(t, b[:at+7], api.ErrShort, at+7)
			holdFault(t, append(slices.Clone(b), 7), api.ErrRange, at)
			holdFault(t, pokedNumber(b, at+8, -5), api.ErrRange, at)
			holdFault(t, pokedCount(b, 568, 3), api.ErrCount, 568)
			holdFault(t, poked(b, 100, 2), api.ErrFlag, 100)
		}
	}
}

// Promises 18.1 to 18.3: both values of each flag, all of them together in every way, and every byte that is none.
func TestFlags(t *testing.T) {
	s := encoding(mixed())
	flags := []int{}
	for _, w := range s.words {
		if w.sort == flag {
			flags = append(flags, w.at)
		}
	}
	if !slices.Equal(flags, []int{100, 101, 166, 167, 232, 233, 298, 299}) {
		t.Fatal("flags at", flags)
	}
	for _, at := range flags {
		for n := range 256 {
			want := found{}
			if n > 1 {
				want = found{api.ErrFlag, at}
			}
			if got := holdReckoned(t, poked(s.b, at, byte(n))); got != want {
				t.Fatalf("the flag %d at %d tells %v", n, at, got)
			}
		}
	}
	for yes := range 256 {
		c := mixed()
		b := slices.Clone(s.b)
		for i := range 4 {
			c.Wheels[i].Steer, c.Wheels[i].Drive = yes>>(2*i)&1 == 1, yes>>(2*i+1)&1 == 1
			b[100+66*i], b[101+66*i] = byte(yes>>(2*i)&1), byte(yes>>(2*i+1)&1)
		}
		holdCar(t, b, c)
	}
}

// edges are numbers of every length, both ends of many ranges and one part beyond either.
func edges() []int64 {
	l := []int64{math.MaxInt64, math.MinInt64, math.MinInt64 + 1}
	for _, n := range []api.Fx{0, one / 2, one, 4 * one, 16 * one, 4096 * one, one << 15, one << 17, far} {
		for d := api.Fx(-1); d <= 1; d++ {
			l = append(l, int64(n+d), int64(-n+d))
		}
	}
	for k := range 63 {
		l = append(l, 1<<k, -1<<k, 0x5a<<k)
	}
	return l
}

// Promises 18.2 and 18.3: every number of a car with lists of different lengths, at the edges of all ranges and of all numbers.
func TestNumbers(t *testing.T) {
	s := encoding(mixed())
	seen := map[api.Errno]int{}
	for _, w := range s.words {
		if w.sort != number && w.sort != angle {
			continue
		}
		for _, n := range edges() {
			seen[holdReckoned(t, pokedNumber(s.b, w.at, n)).err]++
		}
		holdFault(t, pokedNumber(s.b, w.at, math.MinInt64), api.ErrRange, spot(w, len(s.b)))
		holdFault(t, pokedNumber(s.b, w.at, math.MaxInt64), api.ErrRange, spot(w, len(s.b)))
	}
	if seen[api.OK] < 1000 || seen[api.ErrRange] < 1000 || seen[api.ErrOrder] < 100 {
		t.Fatalf("numbers tell %v", seen)
	}
}

// spot is where a number is refused that is too great for all: an angle at its word, others at the end.
func spot(w word, end int) int {
	if w.sort == angle {
		return w.at
	}
	return end
}

// spoiling is a change of a valid car, with the error that it makes, and at which position of car.Right that is.
type spoiling struct {
	err   api.Errno
	at    int
	spoil func(c *api.Car)
}

// numeric are changes of numbers alone, so that the bytes of such a car are read.
func numeric() []spoiling {
	return []spoiling{
		{api.ErrRange, 0, func(c *api.Car) { c.Mass = 63 * one }},
		{api.ErrRange, 0, func(c *api.Car) { c.Rub = -1 }},
		{api.ErrRange, 1, func(c *api.Car) { c.Wheels[0].Hub.Y = 5 * one }},
		{api.ErrRange, 2, func(c *api.Car) { c.Wheels[1].Travel = 0 }},
		{api.ErrRange, 3, func(c *api.Car) { c.Wheels[2].Bump = -1 }},
		{api.ErrRange, 4, func(c *api.Car) { c.Wheels[3].Inertia = 0 }},
		{api.ErrRange, 5, func(c *api.Car) { c.Bars[1] = -1 }},
		{api.ErrOrder, 6, func(c *api.Car) { c.Damper[1].X = c.Damper[0].X }},
		{api.ErrRange, 6, func(c *api.Car) { c.Damper[0].X = -1 }},
		{api.ErrOrder, 7, func(c *api.Car) { c.Tyre.Ys[1] = 0 }},
		{api.ErrRange, 7, func(c *api.Car) { c.Tyre.Rows[1][1] = 4*one + 1 }},
		{api.ErrOrder, 8, func(c *api.Car) { c.Torque[0].X = c.Torque[1].X }},
		{api.ErrRange, 8, func(c *api.Car) { c.Torque[1].Y = 4096*one + 1 }},
		{api.ErrOrder, 9, func(c *api.Car) { c.Air[1].X = -far }},
		{api.ErrRange, 9, func(c *api.Car) { c.Air[0].Y = -1 }},
		{api.ErrRange, 10, func(c *api.Car) { c.Clutch = 0 }},
		{api.ErrOrder, 10, func(c *api.Car) { c.Top = c.Idle }},
		{api.ErrRange, 11, func(c *api.Car) { c.Gears[0] = 0 }},
		{api.ErrRange, 12, func(c *api.Car) { c.Bias = one + 1 }},
		{api.ErrRange, 12, func(c *api.Car) { c.Steer = 1<<29 + 1 }},
		{api.ErrRange, 13, func(c *api.Car) { c.EaseDrive = -1 }},
		{api.ErrOrder, 13, func(c *api.Car) { c.ShiftUp = 0 }},
	}
}

// formal are changes of counts, so that the bytes of such a car are refused where they are read.
func formal() []spoiling {
	return []spoiling{
		{api.ErrShape, 6, func(c *api.Car) { c.Damper = nil }},
		{api.ErrShape, 6, func(c *api.Car) { c.Damper = c.Damper[:1] }},
		{api.ErrShape, 7, func(c *api.Car) { c.Tyre.Xs = c.Tyre.Xs[:1] }},
		{api.ErrShape, 7, func(c *api.Car) { c.Tyre.Ys = nil }},
		{api.ErrShape, 7, func(c *api.Car) { c.Tyre.Rows = c.Tyre.Rows[:1] }},
		{api.ErrShape, 7, func(c *api.Car) { c.Tyre.Rows = nil }},
		{api.ErrShape, 7, func(c *api.Car) { c.Tyre.Rows[1] = nil }},
		{api.ErrShape, 7, func(c *api.Car) { c.Tyre.Rows[0] = append(c.Tyre.Rows[0], one) }},
		{api.ErrShape, 8, func(c *api.Car) { c.Torque = rising(33, 0) }},
		{api.ErrShape, 9, func(c *api.Car) { c.Air = []api.Dot{} }},
		{api.ErrShape, 11, func(c *api.Car) { c.Gears = nil }},
		{api.ErrShape, 11, func(c *api.Car) { c.Gears = make([]api.Fx, 9) }},
		{api.ErrRange, 12, func(c *api.Car) { c.Diff = 3 }},
		{api.ErrRange, 12, func(c *api.Car) { c.Diff = -1 }},
	}
}

// Promises 18.1 and 18.2: a car that is not valid has no bytes, for each position of car.Right, and bytes that are those of such a car tell its error at their end.
func TestWrongCars(t *testing.T) {
	holdWrong(t, api.Car{}, api.ErrRange)
	holdFault(t, encoding(api.Car{}).b, api.ErrCount, 316)
	positions := map[int]bool{}
	for _, build := range []func() api.Car{small, mixed, full} {
		for _, s := range numeric() {
			c := build()
			s.spoil(&c)
			if err, at := car.Right(c); err != s.err || at != s.at {
				t.Fatalf("the car tells %d, %d, not %d, %d", err, at, s.err, s.at)
			}
			positions[s.at] = true
			holdWrong(t, c, s.err)
			b := encoding(c).b
			holdFault(t, b, s.err, len(b))
			holdFault(t, append(slices.Clone(b), 0), api.ErrMore, len(b))
			holdFault(t, b[:len(b)-1], api.ErrShort, len(b)-1)
		}
		for _, s := range formal() {
			c := build()
			s.spoil(&c)
			holdWrong(t, c, s.err)
			holdReckoned(t, encoding(c).b)
		}
	}
	if len(positions) != 14 {
		t.Fatal(len(positions), "positions")
	}
}

// Promises 18.1 and 18.2: of two errors of a car the one that car.Right tells, at the end of the bytes and not at its position.
func TestWrongCarPairs(t *testing.T) {
	seen := map[found]int{}
	counts := formal()
	for _, first := range numeric() {
		for _, second := range append(numeric(), counts...) {
			c := mixed()
			first.spoil(&c)
			second.spoil(&c)
			err, at := car.Right(c)
			seen[found{err, at}]++
			holdWrong(t, c, err)
			holdReckoned(t, encoding(c).b)
		}
	}
	if len(seen) < 22 {
		t.Fatalf("pairs tell %v", seen)
	}
}

// Promise 18.2: of two words that may not be, the first one tells the error; a number that only the car refuses is behind them all.
func TestDecodePairs(t *testing.T) {
	s := encoding(mixed())
	for i, first := range s.words {
		once, want := spoilt(s.b, first)
		holdFault(t, once, want.err, want.at)
		more := append(slices.Clone(once), 0)
		if first.sort == number {
			holdFault(t, more, api.ErrMore, len(s.b))
		} else {
			holdFault(t, more, want.err, want.at)
		}
		for _, second := range s.words[i+1:] {
			twice, other := spoilt(once, second)
			if first.sort == number {
				holdFault(t, twice, other.err, other.at)
			} else {
				holdFault(t, twice, want.err, want.at)
			}
		}
	}
}

// Promise 18.2: a word that may not be, in bytes that are cut off: what is behind the word is not missed any more.
func TestDecodeCutPairs(t *testing.T) {
	s := encoding(sized(2, 3, 2, 2, 2, 2))
	for _, w := range s.words {
		b, want := spoilt(s.b, w)
		for n := range b {
			if n < w.end || w.sort == number {
				holdFault(t, b[:n], api.ErrShort, n)
			} else {
				holdFault(t, b[:n], want.err, want.at)
			}
		}
	}
}

// Rule R3: empty lists may be nil or not: a car has none that may be empty, and is refused either way.
func TestEmptyLists(t *testing.T) {
	clears := []struct {
		at    int
		clear func(c *api.Car, none bool)
	}{
		{316, func(c *api.Car, none bool) { c.Damper = emptied(c.Damper, none) }},
		{350, func(c *api.Car, none bool) { c.Tyre.Xs = emptied(c.Tyre.Xs, none) }},
		{352, func(c *api.Car, none bool) { c.Tyre.Ys = emptied(c.Tyre.Ys, none) }},
		{0, func(c *api.Car, none bool) { c.Tyre.Rows = emptied(c.Tyre.Rows, none) }},
		{0, func(c *api.Car, none bool) { c.Tyre.Rows[1] = emptied(c.Tyre.Rows[1], none) }},
		{418, func(c *api.Car, none bool) { c.Torque = emptied(c.Torque, none) }},
		{452, func(c *api.Car, none bool) { c.Air = emptied(c.Air, none) }},
		{550, func(c *api.Car, none bool) { c.Gears = emptied(c.Gears, none) }},
	}
	for _, k := range clears {
		for _, none := range []bool{false, true} {
			c := small()
			k.clear(&c, none)
			holdWrong(t, c, api.ErrShape)
			b := encoding(c).b
			holdReckoned(t, b)
			if k.at > 0 {
				holdFault(t, b, api.ErrCount, k.at)
			}
		}
	}
}

// emptied is a list of no elements: none at all, or an empty one.
func emptied[E any](l []E, none bool) []E {
	if none {
		return nil
	}
	return l[:0]
}

// spread is a car whose lists have something behind their ends.
func spread(c api.Car) api.Car {
	c = copied(c)
	c.Damper, c.Torque, c.Air = spare(c.Damper, api.Dot{X: 7}), spare(c.Torque, api.Dot{X: 7}), spare(c.Air, api.Dot{X: 7})
	c.Gears, c.Tyre.Xs, c.Tyre.Ys = spare(c.Gears, 7), spare(c.Tyre.Xs, 7), spare(c.Tyre.Ys, 7)
	for i, l := range c.Tyre.Rows {
		c.Tyre.Rows[i] = spare(l, 7)
	}
	c.Tyre.Rows = spare(c.Tyre.Rows, []api.Fx{7})
	return c
}

// behind is what is behind the end of a list.
func behind[E any](l []E) E { return l[:len(l)+1][len(l)] }

// unspread tells whether what is behind the ends of such a car's lists is still there.
func unspread(c api.Car) bool {
	seven := api.Dot{X: 7}
	kept := behind(c.Damper) == seven && behind(c.Torque) == seven && behind(c.Air) == seven &&
		behind(c.Gears) == 7 && behind(c.Tyre.Xs) == 7 && behind(c.Tyre.Ys) == 7 && slices.Equal(behind(c.Tyre.Rows), []api.Fx{7})
	for _, l := range c.Tyre.Rows {
		kept = kept && behind(l) == 7
	}
	return kept
}

// scrawl writes over all of a list, and what is behind its end.
func scrawl[E any](l []E, e E) {
	for i := range l[:cap(l)] {
		l[:cap(l)][i] = e
	}
}

// lists are the lists of numbers of a car, and the tables.
func lists(c api.Car) ([][]api.Fx, [][]api.Dot) {
	return append([][]api.Fx{c.Gears, c.Tyre.Xs, c.Tyre.Ys}, c.Tyre.Rows...), [][]api.Dot{c.Damper, c.Torque, c.Air}
}

// scribble writes over all of a car's lists, and what is behind their ends.
func scribble(c api.Car) {
	numbers, tables := lists(c)
	for _, l := range numbers {
		scrawl(l, least)
	}
	for _, l := range tables {
		scrawl(l, api.Dot{X: least, Y: greatest})
	}
	scrawl(c.Tyre.Rows, nil)
}

// Rule R4: Encode changes nothing of a car, valid or not, and nothing behind its lists, and what it told stays whatever becomes of the car.
func TestEncodeMemory(t *testing.T) {
	cars := samples()
	for _, s := range append(numeric(), formal()...) {
		cars = append(cars, changed(s.spoil))
	}
	for _, c := range cars {
		wide := spread(c)
		b, err := cario.Encode(wide)
		before := slices.Clone(b)
		if !reflect.DeepEqual(wide, spread(c)) || !unspread(wide) {
			t.Fatalf("the car is now %v", wide)
		}
		if right, _ := car.Right(c); right != err || err == api.OK && !bytes.Equal(b, encoding(c).b) {
			t.Fatalf("Encode(%v) = %x, %d", c, b, err)
		}
		scribble(wide)
		if !bytes.Equal(b, before) {
			t.Fatal("the bytes change with the car")
		}
		clear(b[:cap(b)])
		if again, err := cario.Encode(c); err == api.OK && !bytes.Equal(again, before) {
			t.Fatal("other bytes at the second time")
		}
	}
}

// Rule R4: Decode changes no bytes, nor what is behind their end, and the car stays whatever becomes of them; no two lists share memory.
func TestDecodeMemory(t *testing.T) {
	for _, c := range samples() {
		want := encoding(c).b
		b := spare(want, 77)
		got, err, _ := cario.Decode(b)
		if err != api.OK || !bytes.Equal(b[:len(b)+1], append(slices.Clone(want), 77)) {
			t.Fatalf("error %d, and the bytes are now %x", err, b)
		}
		clear(b[:cap(b)])
		if !reflect.DeepEqual(got, c) {
			t.Fatal("the car changes with the bytes")
		}
		numbers, tables := lists(got)
		wanted, others := lists(c)
		for i, l := range numbers {
			if !slices.Equal(l, wanted[i]) {
				t.Fatalf("list %d shares memory with another", i)
			}
			scrawl(l, least)
		}
		for i, l := range tables {
			if !slices.Equal(l, others[i]) {
				t.Fatalf("table %d shares memory with another list", i)
			}
			scrawl(l, api.Dot{X: least, Y: greatest})
		}
		scribble(got)
		if again, _, _ := cario.Decode(want); !reflect.DeepEqual(again, c) {
			t.Fatal("another car at the second time")
		}
	}
}

// Rule R5: an answer hangs on nothing that was asked ahead of it.
func TestAnswersApart(t *testing.T) {
	d := draw(1)
	all := samples()
	for range 300 {
		c := all[d.IntN(len(all))]
		b := encoding(c).b
		switch d.IntN(4) {
		case 0:
			n := d.IntN(len(b))
			holdFault(t, b[:n], api.ErrShort, n)
		case 1:
			holdWrong(t, api.Car{Mass: one}, api.ErrRange)
		case 2:
			holdFault(t, append(b, 1), api.ErrMore, len(b))
		case 3:
			holdCar(t, b, c)
		}
	}
}

// drawer draws by a fixed rule.
type drawer struct{ *rand.Rand }

func draw(seed uint64) drawer { return drawer{rand.New(rand.NewPCG(18, seed))} }

// number draws a number from low to high, quite often one of both.
func (d drawer) number(low, high api.Fx) api.Fx {
	switch d.IntN(8) {
	case 0:
		return low
	case 1:
		return high
	}
	return low + api.Fx(d.Int64N(int64(high-low)+1))
}

// positions draws so many positions that rise, mostly.
func (d drawer) positions(n int, low, high api.Fx) []api.Fx {
	l := []api.Fx{}
	for range n {
		l = append(l, d.number(low, high))
	}
	slices.SortFunc(l, func(a, b api.Fx) int { return cmp.Compare(a, b) })
	for i := range l {
		if i > 0 && l[i] <= l[i-1] {
			l[i] = l[i-1] + 1
		}
	}
	return l
}

// table draws a table's points; if it is signed, no Y has the opposite sign of its X.
func (d drawer) table(low, high api.Fx, signed bool) []api.Dot {
	l := []api.Dot{}
	for _, x := range d.positions(d.IntN(31)+2, -far, far-32) {
		p := api.Dot{X: x, Y: d.number(low, high)}
		if signed && (p.X < 0) != (p.Y < 0) {
			p.Y = -p.Y
		}
		l = append(l, p)
	}
	return l
}

// car draws a valid car.
func (d drawer) car() api.Car {
	c := easy()
	for _, k := range slots() {
		*k.of(&c) = d.number(k.low, k.high)
	}
	for c.Top <= c.Idle {
		c.Top, c.Idle = d.number(64*one, 2048*one), d.number(32*one, 512*one)
	}
	for c.ShiftUp <= c.ShiftDown {
		c.ShiftUp, c.ShiftDown = d.number(0, 2048*one), d.number(0, 2048*one)
	}
	c.Damper, c.Torque, c.Air = d.table(-one<<15, one<<15, true), d.table(-4096*one, 4096*one, false), d.table(0, one<<15, false)
	c.Tyre = api.Pane{Xs: d.positions(d.IntN(31)+2, 0, far-32), Ys: d.positions(d.IntN(31)+2, 0, far-32)}
	for range c.Tyre.Ys {
		values := make([]api.Fx, len(c.Tyre.Xs))
		for k := range values {
			values[k] = d.number(0, 4*one)
		}
		c.Tyre.Rows = append(c.Tyre.Rows, values)
	}
	c.Gears = make([]api.Fx, d.IntN(8)+1)
	for i := range c.Gears {
		c.Gears[i] = d.number(one/4, 32*one)
	}
	c.Diff, c.Steer, c.Rate = d.IntN(3), api.Turn(d.number(0, 1<<29)), api.Turn(d.number(0, 1<<31))
	for i := range c.Wheels {
		c.Wheels[i].Steer, c.Wheels[i].Drive = d.IntN(2) == 0, d.IntN(2) == 0
	}
	return c
}

// spoil changes bytes, mostly so that they are not those of a valid car any more.
func (d drawer) spoil(s *sheet) []byte {
	w := s.words[d.IntN(len(s.words))]
	b := s.b
	switch d.IntN(8) {
	case 0:
		return b[:d.IntN(len(b)+1)]
	case 1:
		return append(slices.Clone(b), make([]byte, d.IntN(20))...)
	case 2:
		return poked(b, d.IntN(len(b)), byte(d.Uint32()))
	case 3:
		at := d.IntN(len(b))
		return poked(b, at, b[at]^1<<d.IntN(8))
	case 4:
		b, _ = spoilt(b, w)
		return b
	case 5:
		at := d.IntN(len(b))
		return slices.Delete(slices.Clone(b), at, min(at+d.IntN(9), len(b)))
	case 6:
		return slices.Insert(slices.Clone(b), w.at, b[w.at:w.end]...)
	}
	other := s.words[d.IntN(len(s.words))]
	return poked(b, w.at, b[other.at:min(other.at+w.end-w.at, len(b))]...)
}

// Promises 18.1 to 18.3: drawn cars come back from their bytes, and drawn bytes about them are read as another reading reads them; what is accepted is the encoding of its car.
func TestDrawn(t *testing.T) {
	d := draw(2)
	seen := map[api.Errno]int{}
	for range 1500 {
		c := d.car()
		if err, at := car.Right(c); err != api.OK {
			t.Fatalf("drawn: %d at %d", err, at)
		}
		s := encoding(c)
		holdCar(t, s.b, c)
		for range 8 {
			seen[holdReckoned(t, d.spoil(s)).err]++
		}
	}
	for _, err := range []api.Errno{api.OK, api.ErrShort, api.ErrMagic, api.ErrCount, api.ErrMore, api.ErrFlag, api.ErrRange, api.ErrOrder} {
		if seen[err] < 5 {
			t.Errorf("the error %d was told %d times", err, seen[err])
		}
	}
}

// Rule R1: any bytes are read to an end, whatever they are.
func TestAnyBytes(t *testing.T) {
	d := draw(3)
	for n := range 3000 {
		b := []byte("CHCA")
		for range n {
			b = append(b, byte(d.Uint32())&byte(d.Uint32()))
		}
		holdReckoned(t, b)
		holdReckoned(t, b[4:])
	}
	for _, v := range []byte{0, 1, 2, 127, 128, 255} {
		holdReckoned(t, bytes.Repeat([]byte{v}, 5000))
		holdReckoned(t, append([]byte("CHCA"), bytes.Repeat([]byte{v}, 5000)...))
	}
}

// FuzzDecode reads any bytes as another reading does.
func FuzzDecode(f *testing.F) {
	for _, c := range []api.Car{small(), mixed(), plain()} {
		f.Add(encoding(c).b)
	}
	f.Fuzz(func(t *testing.T, b []byte) { holdReckoned(t, b) })
}
