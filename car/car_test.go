package car_test

import (
	"math"
	"math/big"
	"math/rand/v2"
	"reflect"
	"slices"
	"testing"

	"chicane/api"
	"chicane/car"
)

const (
	one      = api.One
	far      = api.One << 20 // the greatest size of a number of a table or a pane
	greatest = api.Fx(math.MaxInt64)
	least    = api.Fx(math.MinInt64)
)

// whole makes a list of integers.
func whole(n ...api.Fx) []api.Fx {
	l := []api.Fx{}
	for _, v := range n {
		l = append(l, v*one)
	}
	return l
}

// points makes a table's points of parts: an X and a Y each.
func points(n ...api.Fx) []api.Dot {
	l := []api.Dot{}
	for i := 0; i < len(n); i += 2 {
		l = append(l, api.Dot{X: n[i], Y: n[i+1]})
	}
	return l
}

// row makes a table of so many points, whose Ys are all the same.
func row(n int, y api.Fx) []api.Dot {
	l := []api.Dot{}
	for i := range n {
		l = append(l, api.Dot{X: api.Fx(i) * one, Y: y})
	}
	return l
}

// grid makes a pane of so many columns and rows, whose values are all the same.
func grid(columns, rows int, value api.Fx) api.Pane {
	p := api.Pane{}
	for k := range columns {
		p.Xs = append(p.Xs, api.Fx(k)*one)
	}
	for i := range rows {
		p.Ys = append(p.Ys, api.Fx(i)*one)
		p.Rows = append(p.Rows, slices.Repeat([]api.Fx{value}, columns))
	}
	return p
}

// wheel makes a valid wheel, whose numbers go by n.
func wheel(n api.Fx) api.Wheel {
	return api.Wheel{
		Hub: api.V3{X: n*one - 2*one, Y: one - n, Z: n - one}, Radius: one/4 + n, Inertia: 3*one + n,
		Spring: 20000*one + n, Travel: one/8 + n, Bump: 90000*one + n, Steer: n < 2, Drive: n > 1,
	}
}

// common is a valid car with some of everything, none of it at a bound.
func common() api.Car {
	return api.Car{
		Mass: 1200 * one, Inertia: api.V3{X: 400 * one, Y: 1800 * one, Z: 2000 * one},
		Wheels: [4]api.Wheel{wheel(0), wheel(1), wheel(2), wheel(3)}, Bars: [2]api.Fx{9000 * one, 7000 * one},
		Damper: points(-2*one, -3000*one, 0, 0, one, 2000*one, 3*one, 2500*one),
		Tyre:   api.Pane{Xs: whole(0, 1, 9), Ys: whole(0, 4000), Rows: [][]api.Fx{{0, one, one / 2}, {one / 4, 3 * one / 2, one}}},
		Torque: points(0, 90*one, 300*one, 200*one, 700*one, -40*one), Air: points(0, 0, 50*one, 900*one),
		Side: one / 2, Flywheel: one / 8, Idle: 90 * one, Top: 800 * one, Friction: one / 16, Clutch: 40 * one, Hold: 600 * one,
		Back: 3 * one, Gears: []api.Fx{3*one + 1, 2 * one, one + one/3}, Final: 4*one - 5,
		Diff: api.Limited, Lock: 100 * one, Limit: 500 * one, Brake: 3000 * one, Bias: one / 3, Steer: 1 << 27, Rate: 1 << 28,
		Size: one, Bounce: one / 4, Rub: one / 5, EaseBrake: one / 7, EaseDrive: one / 9, ShiftUp: 700 * one, ShiftDown: 300 * one,
	}
}

// copied is a car in memory of its own.
func copied(c api.Car) api.Car {
	c.Damper, c.Torque, c.Air, c.Gears = slices.Clone(c.Damper), slices.Clone(c.Torque), slices.Clone(c.Air), slices.Clone(c.Gears)
	c.Tyre = api.Pane{Xs: slices.Clone(c.Tyre.Xs), Ys: slices.Clone(c.Tyre.Ys), Rows: slices.Clone(c.Tyre.Rows)}
	for i, values := range c.Tyre.Rows {
		c.Tyre.Rows[i] = slices.Clone(values)
	}
	return c
}

// changed is a common car that a function has changed.
func changed(change func(c *api.Car)) api.Car {
	c := common()
	change(&c)
	return c
}

// number is one of a car's numbers that has bounds of its own: at which position, its bounds, and where it is.
type number struct {
	name      string
	at        int
	low, high api.Fx
	of        func(c *api.Car) *api.Fx
}

// wheelNumbers are the numbers of a wheel.
func wheelNumbers(i int) []number {
	w := func(of func(w *api.Wheel) *api.Fx) func(c *api.Car) *api.Fx {
		return func(c *api.Car) *api.Fx { return of(&c.Wheels[i]) }
	}
	return []number{
		{"Hub.X", i + 1, -4 * one, 4 * one, w(func(w *api.Wheel) *api.Fx { return &w.Hub.X })},
		{"Hub.Y", i + 1, -4 * one, 4 * one, w(func(w *api.Wheel) *api.Fx { return &w.Hub.Y })},
		{"Hub.Z", i + 1, -2 * one, 2 * one, w(func(w *api.Wheel) *api.Fx { return &w.Hub.Z })},
		{"Radius", i + 1, 1 << 29, 1 << 32, w(func(w *api.Wheel) *api.Fx { return &w.Radius })},
		{"Inertia", i + 1, 1 << 29, 1 << 38, w(func(w *api.Wheel) *api.Fx { return &w.Inertia })},
		{"Spring", i + 1, 1 << 42, 1 << 50, w(func(w *api.Wheel) *api.Fx { return &w.Spring })},
		{"Travel", i + 1, 1 << 26, 1 << 31, w(func(w *api.Wheel) *api.Fx { return &w.Travel })},
		{"Bump", i + 1, 0, 1 << 52, w(func(w *api.Wheel) *api.Fx { return &w.Bump })},
	}
}

// bodyNumbers are the numbers of position 0 and of position 5.
func bodyNumbers() []number {
	return []number{
		{"Mass", 0, 64 * one, 8192 * one, func(c *api.Car) *api.Fx { return &c.Mass }},
		{"Inertia.X", 0, 16 * one, 65536 * one, func(c *api.Car) *api.Fx { return &c.Inertia.X }},
		{"Inertia.Y", 0, 16 * one, 65536 * one, func(c *api.Car) *api.Fx { return &c.Inertia.Y }},
		{"Inertia.Z", 0, 16 * one, 65536 * one, func(c *api.Car) *api.Fx { return &c.Inertia.Z }},
		{"Size", 0, 1 << 31, 4 * one, func(c *api.Car) *api.Fx { return &c.Size }},
		{"Bounce", 0, 0, one, func(c *api.Car) *api.Fx { return &c.Bounce }},
		{"Rub", 0, 0, one, func(c *api.Car) *api.Fx { return &c.Rub }},
		{"Bars[0]", 5, 0, 131072 * one, func(c *api.Car) *api.Fx { return &c.Bars[0] }},
		{"Bars[1]", 5, 0, 131072 * one, func(c *api.Car) *api.Fx { return &c.Bars[1] }},
	}
}

// driveNumbers are the numbers of the positions 10 to 13 but for the gears ahead.
func driveNumbers() []number {
	return []number{
		{"Side", 10, 0, 4 * one, func(c *api.Car) *api.Fx { return &c.Side }},
		{"Flywheel", 10, 1 << 26, 16 * one, func(c *api.Car) *api.Fx { return &c.Flywheel }},
		{"Idle", 10, 32 * one, 512 * one, func(c *api.Car) *api.Fx { return &c.Idle }},
		{"Top", 10, 64 * one, 2048 * one, func(c *api.Car) *api.Fx { return &c.Top }},
		{"Friction", 10, 0, one, func(c *api.Car) *api.Fx { return &c.Friction }},
		{"Clutch", 10, one, 256 * one, func(c *api.Car) *api.Fx { return &c.Clutch }},
		{"Hold", 10, 0, 4096 * one, func(c *api.Car) *api.Fx { return &c.Hold }},
		{"Back", 11, 1 << 30, 32 * one, func(c *api.Car) *api.Fx { return &c.Back }},
		{"Final", 11, 1 << 31, 16 * one, func(c *api.Car) *api.Fx { return &c.Final }},
		{"Lock", 12, 0, 65536 * one, func(c *api.Car) *api.Fx { return &c.Lock }},
		{"Limit", 12, 0, 16384 * one, func(c *api.Car) *api.Fx { return &c.Limit }},
		{"Brake", 12, 0, 16384 * one, func(c *api.Car) *api.Fx { return &c.Brake }},
		{"Bias", 12, 0, one, func(c *api.Car) *api.Fx { return &c.Bias }},
		{"EaseBrake", 13, 0, 4 * one, func(c *api.Car) *api.Fx { return &c.EaseBrake }},
		{"EaseDrive", 13, 0, 4 * one, func(c *api.Car) *api.Fx { return &c.EaseDrive }},
		{"ShiftUp", 13, 0, 2048 * one, func(c *api.Car) *api.Fx { return &c.ShiftUp }},
		{"ShiftDown", 13, 0, 2048 * one, func(c *api.Car) *api.Fx { return &c.ShiftDown }},
	}
}

// numbers are all numbers of a car that have bounds of their own; gears are those ahead.
func numbers(gears int) []number {
	l := slices.Concat(bodyNumbers(), driveNumbers())
	for i := range 4 {
		l = append(l, wheelNumbers(i)...)
	}
	for i := range gears {
		l = append(l, number{"Gears", 11, 1 << 30, 32 * one, func(c *api.Car) *api.Fx { return &c.Gears[i] }})
	}
	return l
}

// off tells whether a number is not from low to high.
func off(n, low, high api.Fx) bool { return n < low || n > high }

// tableFault reckons what is wrong with a table whose Ys are to be from low to high.
func tableFault(l []api.Dot, low, high api.Fx) api.Errno {
	if len(l) < 2 || len(l) > 32 {
		return api.ErrShape
	}
	wrong := api.OK
	for i, p := range l {
		if off(p.X, -far, far) || off(p.Y, -far, far) {
			return api.ErrRange
		}
		if i > 0 && l[i-1].X >= p.X {
			return api.ErrOrder
		}
		if off(p.Y, low, high) {
			wrong = api.ErrRange
		}
	}
	return wrong
}

// damperFault reckons what is wrong with a damper's table: the product of an X and a Y of opposite signs is below 0.
func damperFault(l []api.Dot) api.Errno {
	if err := tableFault(l, -32768*one, 32768*one); err != api.OK {
		return err
	}
	for _, p := range l {
		if new(big.Int).Mul(big.NewInt(int64(p.X)), big.NewInt(int64(p.Y))).Sign() < 0 {
			return api.ErrRange
		}
	}
	return api.OK
}

// tyreFault reckons what is wrong with a tyre's pane.
func tyreFault(p api.Pane) api.Errno {
	if len(p.Xs) < 2 || len(p.Xs) > 32 || len(p.Ys) < 2 || len(p.Ys) > 32 || len(p.Rows) != len(p.Ys) {
		return api.ErrShape
	}
	for _, values := range p.Rows {
		if len(values) != len(p.Xs) {
			return api.ErrShape
		}
	}
	every := append(slices.Concat(p.Rows...), slices.Concat(p.Xs, p.Ys)...)
	for _, n := range every {
		if off(n, -far, far) {
			return api.ErrRange
		}
	}
	for _, l := range [][]api.Fx{p.Xs, p.Ys} {
		if rising := slices.Compact(slices.Sorted(slices.Values(l))); !slices.Equal(l, rising) {
			return api.ErrOrder
		}
	}
	for i, n := range every {
		if n < 0 || i < len(p.Xs)*len(p.Ys) && n > 4*one {
			return api.ErrRange
		}
	}
	return api.OK
}

// found is an error and its position.
type found struct {
	err api.Errno
	at  int
}

// fault reckons what is wrong with a car, and where: of each position the error that is asked last is written first.
func fault(c api.Car) found {
	var errs [14]api.Errno
	if c.Top <= c.Idle {
		errs[10] = api.ErrOrder
	}
	if c.ShiftUp <= c.ShiftDown {
		errs[13] = api.ErrOrder
	}
	for _, n := range numbers(len(c.Gears)) {
		if off(*n.of(&c), n.low, n.high) {
			errs[n.at] = api.ErrRange
		}
	}
	if len(c.Gears) == 0 || len(c.Gears) > 8 {
		errs[11] = api.ErrShape
	}
	if c.Diff < 0 || c.Diff > 2 || c.Steer > 1<<29 || c.Rate > 1<<31 {
		errs[12] = api.ErrRange
	}
	errs[6], errs[7] = damperFault(c.Damper), tyreFault(c.Tyre)
	errs[8], errs[9] = tableFault(c.Torque, -4096*one, 4096*one), tableFault(c.Air, 0, 32768*one)
	for at, err := range errs {
		if err != api.OK {
			return found{err, at}
		}
	}
	return found{}
}

func holdRight(t *testing.T, c api.Car, want api.Errno, at int) {
	t.Helper()
	if got, where := car.Right(c); got != want || where != at {
		t.Fatalf("Right(%v) = %d, %d, not %d, %d", c, got, where, want, at)
	}
}

func holdRatio(t *testing.T, c api.Car, gear int, want api.Fx) {
	t.Helper()
	if got := car.Ratio(c, gear); got != want {
		t.Fatalf("Ratio of Back %d, Gears %d, Final %d and gear %d = %d, not %d", c.Back, c.Gears, c.Final, gear, got, want)
	}
}

// Promise 17.1: the chapter's examples.
func TestRight(t *testing.T) {
	holdRight(t, common(), api.OK, 0)
	holdRight(t, api.Car{}, api.ErrRange, 0)
	holdRight(t, changed(func(c *api.Car) { c.ShiftUp = c.ShiftDown }), api.ErrOrder, 13)
}

// holdNumber holds one number of a car at both of its bounds, within them and beyond them. At a bound only the order may be wrong.
func holdNumber(t *testing.T, n number) {
	t.Helper()
	for _, v := range []api.Fx{n.low, n.low + 1, n.high - 1, n.high, n.low/2 + n.high/2} {
		c := common()
		*n.of(&c) = v
		want := found{}
		if c.Top <= c.Idle || c.ShiftUp <= c.ShiftDown {
			want = found{api.ErrOrder, n.at}
		}
		holdRight(t, c, want.err, want.at)
	}
	for _, v := range []api.Fx{n.low - 1, n.high + 1, n.low - one, 2 * n.high, -n.high - 1, least, least + 1, greatest, n.low - 1<<62, n.low/2 - 1} {
		if n.low <= v && v <= n.high {
			continue
		}
		c := common()
		*n.of(&c) = v
		holdRight(t, c, api.ErrRange, n.at)
	}
}

// Promise 17.1: each number with bounds of its own, alone.
func TestRightNumbers(t *testing.T) {
	l := numbers(len(common().Gears))
	if len(l) != 61 {
		t.Fatal(len(l), "numbers")
	}
	for _, n := range l {
		t.Run(n.name, func(t *testing.T) { holdNumber(t, n) })
	}
}

// Promise 17.1: all numbers at their least, and all at their greatest ones; the order alone is mended.
func TestRightAllAtBounds(t *testing.T) {
	lowest, highest := common(), common()
	for _, n := range numbers(3) {
		*n.of(&lowest), *n.of(&highest) = n.low, n.high
	}
	holdRight(t, lowest, api.ErrOrder, 13)
	holdRight(t, highest, api.ErrOrder, 13)
	lowest.ShiftUp, highest.ShiftDown = 1, 2048*one-1
	lowest.Steer, lowest.Rate, lowest.Diff = 0, 0, api.Open
	highest.Steer, highest.Rate, highest.Diff = 1<<29, 1<<31, api.Limited
	holdRight(t, lowest, api.OK, 0)
	holdRight(t, highest, api.OK, 0)
}

// Promise 17.1: the angles, which have no sign: what is less than 0 is nearly a whole turn.
func TestRightAngles(t *testing.T) {
	for _, n := range []api.Turn{0, 1, 1 << 28, 1<<29 - 1, 1 << 29} {
		holdRight(t, changed(func(c *api.Car) { c.Steer = n }), api.OK, 0)
	}
	for _, n := range []api.Turn{1<<29 + 1, 1 << 30, 1 << 31, math.MaxUint32} {
		holdRight(t, changed(func(c *api.Car) { c.Steer = n }), api.ErrRange, 12)
	}
	for _, n := range []api.Turn{0, 1, 1 << 29, 1 << 30, 1<<31 - 1, 1 << 31} {
		holdRight(t, changed(func(c *api.Car) { c.Rate = n }), api.OK, 0)
	}
	for _, n := range []api.Turn{1<<31 + 1, 3 << 30, math.MaxUint32} {
		holdRight(t, changed(func(c *api.Car) { c.Rate = n }), api.ErrRange, 12)
	}
}

// Promise 17.1: the kinds of differentials, and what is none of them.
func TestRightDiff(t *testing.T) {
	for _, n := range []int{api.Open, api.Locked, api.Limited} {
		holdRight(t, changed(func(c *api.Car) { c.Diff = n }), api.OK, 0)
	}
	for _, n := range []int{-1, 3, 4, -2, 256, 1 << 32, 1<<32 + 1, -1 << 32, math.MaxInt, math.MinInt} {
		holdRight(t, changed(func(c *api.Car) { c.Diff = n }), api.ErrRange, 12)
	}
}

// Promise 17.1: what cannot be wrong: which wheels steer and which are driven.
func TestRightAnything(t *testing.T) {
	for bits := range 256 {
		c := common()
		for i := range c.Wheels {
			c.Wheels[i].Steer, c.Wheels[i].Drive = bits>>i&1 == 1, bits>>i&16 == 16
		}
		holdRight(t, c, api.OK, 0)
	}
}

// lists are a car's tables: at which position, the bounds of their Ys, and where they are.
func lists() []struct {
	at        int
	low, high api.Fx
	of        func(c *api.Car) *[]api.Dot
} {
	return []struct {
		at        int
		low, high api.Fx
		of        func(c *api.Car) *[]api.Dot
	}{
		{6, -32768 * one, 32768 * one, func(c *api.Car) *[]api.Dot { return &c.Damper }},
		{8, -4096 * one, 4096 * one, func(c *api.Car) *[]api.Dot { return &c.Torque }},
		{9, 0, 32768 * one, func(c *api.Car) *[]api.Dot { return &c.Air }},
	}
}

// Promise 17.1: the tables' own errors: no points, one, too many; numbers too great; points that do not rise; each ahead of a Y that is too great for a car.
func TestRightTables(t *testing.T) {
	for _, k := range lists() {
		hold := func(l []api.Dot, want api.Errno) {
			t.Helper()
			at := k.at
			if want == api.OK {
				at = 0
			}
			holdRight(t, changed(func(c *api.Car) { *k.of(c) = l }), want, at)
		}
		hold(nil, api.ErrShape)
		hold([]api.Dot{}, api.ErrShape)
		for n := range 40 {
			want := api.ErrShape
			if n >= 2 && n <= 32 {
				want = api.OK
			}
			hold(row(n, 5), want)
			hold(append(row(n, 5), api.Dot{X: 90 * one, Y: k.high})[1:], want)
		}
		for _, n := range []api.Fx{far + 1, -far - 1, 2 * far, greatest, least, least + 1} {
			hold(points(0, 0, n, 0), api.ErrRange)
			hold(points(n, 0, 1, 0), api.ErrRange)
			hold(points(0, n, 1, 0), api.ErrRange)
			hold(points(0, 0, 1, n), api.ErrRange)
			hold(points(0, 0, 0, n), api.ErrRange)
		}
		hold(points(-far, 0, far, 0), api.OK)
		hold(points(0, 0, 0, 0), api.ErrOrder)
		hold(points(0, 0, 1, 0, 1, 0), api.ErrOrder)
		hold(points(0, 0, 2, 0, 1, 0), api.ErrOrder)
		hold(points(0, k.high+1, 0, 0), api.ErrOrder)
		hold(points(0, k.low-1, 0, 0), api.ErrOrder)
		hold(points(0, 0, 0, 0, 1, greatest), api.ErrOrder)
		hold(slices.Repeat(points(0, far+1), 33), api.ErrShape)
	}
}

// Promise 17.1: the Ys of the tables at both of their bounds and beyond them, at each of three points.
func TestRightTablesBounds(t *testing.T) {
	for _, k := range lists() {
		for i := range 3 {
			// The signs are the same for X and Y, so that none is opposite.
			for _, side := range []api.Fx{-1, 1} {
				hold := func(y api.Fx, want found) {
					t.Helper()
					l := points(side*4-3, 0, side*4, 0, side*4+3, 0)
					l[i].Y = y
					holdRight(t, changed(func(c *api.Car) { *k.of(c) = l }), want.err, want.at)
				}
				bound := k.high
				if side < 0 {
					bound = k.low
				}
				hold(bound, found{})
				hold(bound-side, found{})
				hold(bound+side, found{api.ErrRange, k.at})
				hold(bound+side*one, found{api.ErrRange, k.at})
				hold(side*far, found{api.ErrRange, k.at})
			}
		}
	}
}

// Promise 17.1: the signs of a damper's points.
func TestRightDamperSigns(t *testing.T) {
	hold := func(want api.Errno, n ...api.Fx) {
		t.Helper()
		at := 6
		if want == api.OK {
			at = 0
		}
		holdRight(t, changed(func(c *api.Car) { c.Damper = points(n...) }), want, at)
	}
	for _, x := range []api.Fx{1, one, far} {
		for _, y := range []api.Fx{1, one, 32768 * one} {
			hold(api.OK, -x, -y, x, y)
			hold(api.OK, -x, 0, x, 0)
			hold(api.OK, -x, -y, 0, y)
			hold(api.OK, -x, -y, 0, -y)
			hold(api.OK, 0, y, x, y)
			hold(api.OK, 0, -y, x, y)
			hold(api.ErrRange, -x, y, x, y)
			hold(api.ErrRange, -x, -y, x, -y)
			hold(api.ErrRange, -x, y, x, 0)
			hold(api.ErrRange, -x, 0, x, -y)
			hold(api.ErrRange, -x, y, x, -y)
			hold(api.ErrRange, 0, 0, x, -y)
			hold(api.ErrRange, -x, y, 0, 0)
		}
	}
	hold(api.ErrOrder, one, -one, 0, 0)
	// The engine's table and the air's ask no signs.
	holdRight(t, changed(func(c *api.Car) { c.Torque = points(-one, one, one, -one) }), api.OK, 0)
	holdRight(t, changed(func(c *api.Car) { c.Air = points(-one, one, one, 0) }), api.OK, 0)
}

func holdTyre(t *testing.T, p api.Pane, want api.Errno) {
	t.Helper()
	at := 7
	if want == api.OK {
		at = 0
	}
	holdRight(t, changed(func(c *api.Car) { c.Tyre = p }), want, at)
}

// Promise 17.1: the shapes of the pane.
func TestRightTyreShape(t *testing.T) {
	holdTyre(t, api.Pane{}, api.ErrShape)
	holdTyre(t, api.Pane{Xs: []api.Fx{}, Ys: []api.Fx{}, Rows: [][]api.Fx{}}, api.ErrShape)
	for n := range 36 {
		want := api.ErrShape
		if n >= 2 && n <= 32 {
			want = api.OK
		}
		holdTyre(t, grid(n, 2, one), want)
		holdTyre(t, grid(2, n, one), want)
		holdTyre(t, grid(n, n, one), want)
	}
	lame := func(change func(p *api.Pane)) api.Pane {
		p := grid(3, 3, 9*one) // the shape is asked ahead of the values
		change(&p)
		return p
	}
	holdTyre(t, lame(func(p *api.Pane) { p.Xs = p.Xs[:2] }), api.ErrShape)
	holdTyre(t, lame(func(p *api.Pane) { p.Ys = p.Ys[:2] }), api.ErrShape)
	holdTyre(t, lame(func(p *api.Pane) { p.Rows = p.Rows[:2] }), api.ErrShape)
	holdTyre(t, lame(func(p *api.Pane) { p.Rows[2] = p.Rows[2][:2] }), api.ErrShape)
	holdTyre(t, lame(func(p *api.Pane) { p.Rows[1] = nil }), api.ErrShape)
	holdTyre(t, lame(func(p *api.Pane) { p.Xs, p.Ys = nil, nil }), api.ErrShape)
}

// Promise 17.1: each position and each value of the pane, at its bounds and beyond them.
func TestRightTyreNumbers(t *testing.T) {
	ends := func(lists func(p *api.Pane) []api.Fx, i int, n api.Fx, want api.Errno) {
		t.Helper()
		p := grid(3, 3, one)
		lists(&p)[i] = n
		holdTyre(t, p, want)
	}
	xs, ys := func(p *api.Pane) []api.Fx { return p.Xs }, func(p *api.Pane) []api.Fx { return p.Ys }
	for _, l := range []func(p *api.Pane) []api.Fx{xs, ys} {
		ends(l, 0, 0, api.OK)
		ends(l, 0, one-1, api.OK)
		ends(l, 0, one, api.ErrOrder)
		ends(l, 1, 0, api.ErrOrder)
		ends(l, 1, -1, api.ErrOrder)
		ends(l, 2, one, api.ErrOrder)
		ends(l, 2, far, api.OK)
		for i, n := range []api.Fx{-1, -one, -far} {
			ends(l, 0, n, api.ErrRange)
			p := grid(3, 3, one)
			l(&p)[0], l(&p)[1] = n, n/2 // the second one is 0 or negative too
			holdTyre(t, p, api.ErrRange)
			ends(l, i, far+1, api.ErrRange)
			ends(l, i, -far-1, api.ErrRange)
			ends(l, i, greatest, api.ErrRange)
			ends(l, i, least, api.ErrRange)
		}
	}
	for i := range 9 {
		value := func(p *api.Pane) []api.Fx { return p.Rows[i/3] }
		for _, n := range []api.Fx{0, 1, one, 4*one - 1, 4 * one} {
			ends(value, i%3, n, api.OK)
		}
		for _, n := range []api.Fx{-1, 4*one + 1, -one, 5 * one, far, -far, far + 1, -far - 1, greatest, least} {
			ends(value, i%3, n, api.ErrRange)
		}
		// The order is of the pane's own errors: they are ahead of the car's.
		p := grid(3, 3, one)
		p.Rows[i/3][i%3], p.Xs[2] = 5*one, one
		holdTyre(t, p, api.ErrOrder)
		p.Rows[i/3][i%3] = far + 1
		holdTyre(t, p, api.ErrRange)
	}
}

// Promise 17.1: the number of gears ahead, and ErrShape ahead of ErrRange.
func TestRightGears(t *testing.T) {
	for n := range 20 {
		want, at := api.ErrShape, 11
		if n >= 1 && n <= 8 {
			want, at = api.OK, 0
		}
		c := changed(func(c *api.Car) { c.Gears = slices.Repeat([]api.Fx{one}, n) })
		holdRight(t, c, want, at)
		if want == api.OK {
			want = api.ErrRange
		}
		c.Back = 0
		holdRight(t, c, want, 11)
		c.Back, c.Final = one, 0
		holdRight(t, c, want, 11)
		for i := range n {
			c := changed(func(c *api.Car) { c.Gears = slices.Repeat([]api.Fx{one}, n) })
			for _, v := range []api.Fx{one/4 - 1, 32*one + 1, greatest, least} {
				c.Gears[i] = v
				holdRight(t, c, want, 11)
			}
		}
	}
	holdRight(t, changed(func(c *api.Car) { c.Gears = nil }), api.ErrShape, 11)
	holdRight(t, changed(func(c *api.Car) { c.Gears = []api.Fx{} }), api.ErrShape, 11)
	// The ratios need no order.
	holdRight(t, changed(func(c *api.Car) { c.Gears = whole(1, 3, 2, 2, 32) }), api.OK, 0)
}

// Promise 17.1: the engine's speeds and the shifting's: one greater than the other, by a part or by much, and ErrRange ahead of ErrOrder.
func TestRightOrder(t *testing.T) {
	speeds := func(idle, top api.Fx, want found) {
		t.Helper()
		holdRight(t, changed(func(c *api.Car) { c.Idle, c.Top = idle, top }), want.err, want.at)
	}
	shifts := func(down, up api.Fx, want found) {
		t.Helper()
		holdRight(t, changed(func(c *api.Car) { c.ShiftDown, c.ShiftUp = down, up }), want.err, want.at)
	}
	for _, n := range []api.Fx{64 * one, 100*one + 7, 512 * one} {
		speeds(n, n+1, found{})
		speeds(n, n, found{api.ErrOrder, 10})
		if n > 64*one {
			speeds(n, n-1, found{api.ErrOrder, 10})
			speeds(n, 64*one, found{api.ErrOrder, 10})
		}
	}
	speeds(64*one, 64*one-1, found{api.ErrRange, 10})
	speeds(512*one+1, 512*one, found{api.ErrRange, 10})
	speeds(100*one, 2048*one+1, found{api.ErrRange, 10})
	speeds(31*one, 30*one, found{api.ErrRange, 10})
	for _, n := range []api.Fx{0, 1, 1000 * one, 2048*one - 1} {
		shifts(n, n+1, found{})
		shifts(n, n, found{api.ErrOrder, 13})
		shifts(n+1, n, found{api.ErrOrder, 13})
	}
	shifts(2048*one, 2048*one, found{api.ErrOrder, 13})
	shifts(2048*one, 0, found{api.ErrOrder, 13})
	shifts(-1, -1, found{api.ErrRange, 13})
	shifts(2048*one+1, 2048*one, found{api.ErrRange, 13})
	shifts(greatest, least, found{api.ErrRange, 13})
	for _, wrong := range []func(c *api.Car){
		func(c *api.Car) { c.Side = -1 }, func(c *api.Car) { c.Flywheel = 0 }, func(c *api.Car) { c.Friction = 2 * one },
		func(c *api.Car) { c.Clutch = 0 }, func(c *api.Car) { c.Hold = -1 },
	} {
		c := changed(func(c *api.Car) { c.Idle, c.Top = 100*one, 100*one })
		holdRight(t, c, api.ErrOrder, 10)
		wrong(&c)
		holdRight(t, c, api.ErrRange, 10)
	}
	for _, wrong := range []func(c *api.Car){func(c *api.Car) { c.EaseBrake = -1 }, func(c *api.Car) { c.EaseDrive = 5 * one }} {
		c := changed(func(c *api.Car) { c.ShiftUp = 0 })
		holdRight(t, c, api.ErrOrder, 13)
		wrong(&c)
		holdRight(t, c, api.ErrRange, 13)
	}
	// Neither the shifting nor the engine's speeds are held against each other.
	speeds(90*one, 91*one, found{})
}

// flaws are changes that make a car not valid, with the error of each; the places are the positions.
func flaws() []struct {
	err    api.Errno
	change func(c *api.Car)
} {
	return []struct {
		err    api.Errno
		change func(c *api.Car)
	}{
		{api.ErrRange, func(c *api.Car) { c.Rub = -1 }},
		{api.ErrRange, func(c *api.Car) { c.Wheels[0].Hub.Y = 5 * one }},
		{api.ErrRange, func(c *api.Car) { c.Wheels[1].Travel = 0 }},
		{api.ErrRange, func(c *api.Car) { c.Wheels[2].Bump = -1 }},
		{api.ErrRange, func(c *api.Car) { c.Wheels[3].Inertia = 0 }},
		{api.ErrRange, func(c *api.Car) { c.Bars[1] = -1 }},
		{api.ErrShape, func(c *api.Car) { c.Damper = nil }},
		{api.ErrOrder, func(c *api.Car) { c.Tyre.Ys = whole(1, 1) }},
		{api.ErrOrder, func(c *api.Car) { c.Torque = points(0, 0, 0, 0) }},
		{api.ErrRange, func(c *api.Car) { c.Air = points(0, -1, 1, 0) }},
		{api.ErrOrder, func(c *api.Car) { c.Top = c.Idle }},
		{api.ErrShape, func(c *api.Car) { c.Gears = nil }},
		{api.ErrRange, func(c *api.Car) { c.Diff = 3 }},
		{api.ErrOrder, func(c *api.Car) { c.ShiftUp = 0 }},
	}
}

// Promise 17.1, rule R2: of several faults the first by position, for each set of positions.
func TestRightFirst(t *testing.T) {
	l := flaws()
	for bits := range 1 << len(l) {
		c, want := common(), found{}
		for at := len(l) - 1; at >= 0; at-- {
			if bits>>at&1 == 1 {
				l[at].change(&c)
				want = found{l[at].err, at}
			}
		}
		holdRight(t, c, want.err, want.at)
	}
}

// drawer draws cars.
type drawer struct{ *rand.Rand }

// about draws a number between two bounds, at one of them, or, seldom, beyond.
func (d drawer) about(low, high api.Fx) api.Fx {
	switch d.IntN(12) {
	case 0:
		return low
	case 1:
		return high
	}
	return low + api.Fx(d.Uint64N(uint64(high-low)+1))
}

// beyond draws a number that is not from low to high.
func (d drawer) beyond(low, high api.Fx) api.Fx {
	n := []api.Fx{low - 1, high + 1, low - one, 2*high + 1, least, greatest, low - 1 - api.Fx(d.Uint64N(1<<50)), high + 1 + api.Fx(d.Uint64N(1<<50))}
	return n[d.IntN(len(n))]
}

// dots draws a table: mostly a valid one of a car.
func (d drawer) dots(low, high api.Fx, signed bool) []api.Dot {
	l := []api.Dot{}
	for range d.IntN(31) + 2 {
		p := api.Dot{X: d.about(-far, far), Y: d.about(low, high)}
		if signed && (p.X < 0) != (p.Y < 0) {
			p.Y = -p.Y
		}
		l = append(l, p)
	}
	slices.SortFunc(l, func(a, b api.Dot) int { return int(big.NewInt(int64(a.X)).Cmp(big.NewInt(int64(b.X)))) })
	l = slices.CompactFunc(l, func(a, b api.Dot) bool { return a.X == b.X })
	if len(l) < 2 {
		return points(0, 0, 1, 0)
	}
	return l
}

// pane draws a tyre's valid pane.
func (d drawer) pane() api.Pane {
	p := grid(d.IntN(31)+2, d.IntN(31)+2, 0)
	for i := range p.Xs {
		p.Xs[i] += api.Fx(d.Int64N(int64(one)))
	}
	for i, values := range p.Rows {
		p.Ys[i] += api.Fx(d.Int64N(int64(one)))
		for k := range values {
			values[k] = d.about(0, 4*one)
		}
	}
	return p
}

// car draws a valid car.
func (d drawer) car() api.Car {
	c := api.Car{
		Gears: make([]api.Fx, d.IntN(8)+1), Tyre: d.pane(), Diff: d.IntN(3),
		Damper: d.dots(-32768*one, 32768*one, true), Torque: d.dots(-4096*one, 4096*one, false), Air: d.dots(0, 32768*one, false),
		Steer: api.Turn(d.about(0, 1<<29)), Rate: api.Turn(d.about(0, 1<<31)),
	}
	for _, n := range numbers(len(c.Gears)) {
		*n.of(&c) = d.about(n.low, n.high)
	}
	for c.Top <= c.Idle {
		c.Top, c.Idle = d.about(64*one, 2048*one), d.about(32*one, 512*one)
	}
	for c.ShiftUp <= c.ShiftDown {
		c.ShiftUp, c.ShiftDown = d.about(0, 2048*one), d.about(0, 2048*one)
	}
	return c
}

// spoil changes something of a car, mostly so that it is not valid any more.
func (d drawer) spoil(c *api.Car) {
	l := numbers(len(c.Gears))
	tables := lists()
	k := tables[d.IntN(len(tables))]
	dots := *k.of(c)
	switch d.IntN(10) {
	case 0:
		dots[d.IntN(len(dots))].Y = d.beyond(k.low, k.high)
	case 1:
		dots[d.IntN(len(dots))].X = d.about(-far, far)
	case 2:
		*k.of(c) = dots[:d.IntN(len(dots))+1]
	case 3:
		c.Tyre.Rows[d.IntN(len(c.Tyre.Rows))][d.IntN(len(c.Tyre.Xs))] = d.beyond(0, 4*one)
	case 4:
		c.Tyre.Xs[d.IntN(len(c.Tyre.Xs))] = d.about(-one, 40*one)
	case 5:
		c.Tyre.Rows = c.Tyre.Rows[:d.IntN(len(c.Tyre.Rows)+1)]
	case 6:
		c.Steer, c.Rate, c.Diff = api.Turn(d.Uint32()), api.Turn(d.Uint32()), d.IntN(5)-1
	case 7:
		c.Gears = c.Gears[:d.IntN(len(c.Gears)+1)]
	case 8:
		c.Idle, c.ShiftUp = c.Top+api.Fx(d.IntN(3)-1), c.ShiftDown+api.Fx(d.IntN(3)-1)
	default:
		n := l[d.IntN(len(l))]
		*n.of(c) = d.beyond(n.low, n.high)
	}
}

// Promises 17.1 and 17.3, rules R4 and R5: drawn cars, valid and spoiled, against a reckoning; without its last gear a valid one is valid; nothing of a car is changed, and the same is told again.
func TestRightDrawn(t *testing.T) {
	d := drawer{rand.New(rand.NewPCG(17, 1))}
	often := map[found]int{}
	for i := range 20000 {
		c := d.car()
		if i%4 > 0 {
			holdRight(t, c, api.OK, 0)
			for range i % 4 {
				if len(c.Tyre.Rows) > 0 && len(c.Gears) > 0 {
					d.spoil(&c)
				}
			}
		}
		before, want := copied(c), fault(c)
		for range 2 {
			holdRight(t, c, want.err, want.at)
			car.Ratio(c, 1)
		}
		if !reflect.DeepEqual(c, before) {
			t.Fatalf("%v was changed to %v", before, c)
		}
		often[want]++
		for n := len(c.Gears) - 1; n > 0 && want.err == api.OK; n-- {
			c.Gears = c.Gears[:n]
			holdRight(t, c, api.OK, 0)
		}
	}
	holdOften(t, often)
}

// holdOften holds that each error of each position was drawn often enough.
func holdOften(t *testing.T, often map[found]int) {
	t.Helper()
	kinds := []found{
		{api.OK, 0}, {api.ErrRange, 0}, {api.ErrRange, 1}, {api.ErrRange, 2}, {api.ErrRange, 3}, {api.ErrRange, 4}, {api.ErrRange, 5},
		{api.ErrRange, 6}, {api.ErrOrder, 6}, {api.ErrShape, 6}, {api.ErrRange, 7}, {api.ErrOrder, 7}, {api.ErrShape, 7},
		{api.ErrRange, 8}, {api.ErrOrder, 8}, {api.ErrShape, 8}, {api.ErrRange, 9}, {api.ErrOrder, 9}, {api.ErrShape, 9},
		{api.ErrRange, 10}, {api.ErrOrder, 10}, {api.ErrRange, 11}, {api.ErrShape, 11}, {api.ErrRange, 12}, {api.ErrRange, 13}, {api.ErrOrder, 13},
	}
	for _, k := range kinds {
		if often[k] < 20 {
			t.Error("only", often[k], "cars of", k)
		}
	}
	if len(often) != len(kinds) {
		t.Error(len(often), "kinds of answers, not", len(kinds))
	}
}

// geared makes a car with nothing but ratios.
func geared(back, final api.Fx, gears ...api.Fx) api.Car {
	c := common()
	c.Back, c.Final, c.Gears = back, final, gears
	return c
}

// Promise 17.2: the chapter's example, each gear, and gears that do not exist.
func TestRatio(t *testing.T) {
	c := geared(one, 3*one, whole(2, 1)...)
	holdRight(t, c, api.OK, 0)
	holdRatio(t, c, 1, 6*one)
	holdRatio(t, c, 2, 3*one)
	holdRatio(t, c, -1, -3*one)
	for _, gear := range []int{0, 3, 4, 8, 9, -2, -3, -8, 1 << 32, 1<<32 + 1, 1<<32 - 1, -1 << 32, 1<<63 - 1, math.MaxInt, math.MinInt, math.MinInt + 1, math.MaxInt32, math.MinInt32} {
		holdRatio(t, c, gear, 0)
	}
	eight := geared(4*one, one/2, whole(8, 7, 6, 5, 4, 3, 2, 1)...)
	for gear := 1; gear <= 8; gear++ {
		holdRatio(t, eight, gear, api.Fx(9-gear)*one/2)
	}
	holdRatio(t, eight, 9, 0)
	holdRatio(t, eight, -1, -2*one)
	single := geared(one/4, 16*one, 32*one)
	holdRatio(t, single, 1, 512*one)
	holdRatio(t, single, 2, 0)
	holdRatio(t, single, -1, -4*one)
}

// Promise 17.2: products that are rounded, a half to the even one, either way.
func TestRatioRounded(t *testing.T) {
	for _, k := range []struct{ ratio, final, want api.Fx }{
		{one + 1, one / 2, one / 2},            // half a part above an even one
		{one + 3, one / 2, one/2 + 2},          // half a part above an odd one
		{one + 2, one / 2, one/2 + 1},          // exact
		{one + 1, one + 1, one + 2},            // much less than half a part
		{one + 1<<16, one + 1<<15, 4295065600}, // 2^32 + 2^16 + 2^15 + 1/2: the even one
		{one + 1, one/2 + 1, one/2 + 2},        // just above half a part
		{one - 1, one/2 + 1, one/2 + 0},        // just below half a part
	} {
		c := geared(k.ratio, k.final, 2*one, k.ratio)
		holdRight(t, c, api.OK, 0)
		holdRatio(t, c, 2, k.want)
		holdRatio(t, c, -1, -k.want)
	}
}

// exact reckons a product, rounded to the nearest part, a half to the even one: none of a valid car is too great.
func exact(a, b api.Fx) api.Fx {
	p := new(big.Int).Mul(big.NewInt(int64(a)), big.NewInt(int64(b)))
	r := new(big.Rat).SetFrac(p, big.NewInt(int64(one)))
	down, rest := new(big.Int).DivMod(r.Num(), r.Denom(), new(big.Int))
	rest.Lsh(rest, 1)
	if k := rest.Cmp(r.Denom()); k > 0 || k == 0 && down.Bit(0) == 1 {
		down.Add(down, big.NewInt(1))
	}
	return api.Fx(down.Int64())
}

// Promise 17.2: drawn cars, each gear that exists and some that do not, against a reckoning.
func TestRatioDrawn(t *testing.T) {
	d := drawer{rand.New(rand.NewPCG(17, 2))}
	for range 3000 {
		c := d.car()
		holdRatio(t, c, -1, exact(-c.Back, c.Final))
		for i, n := range c.Gears {
			holdRatio(t, c, i+1, exact(n, c.Final))
		}
		holdRatio(t, c, 0, 0)
		holdRatio(t, c, len(c.Gears)+1, 0)
		holdRatio(t, c, -2, 0)
		holdRatio(t, c, int(d.Uint64()|1<<40), 0)
	}
}

// Promise 17.2: what lies behind the end of the gears is no gear.
func TestRatioSpare(t *testing.T) {
	c := common()
	all := whole(4, 3, 2, 1)
	c.Gears = all[:2]
	holdRatio(t, c, 3, 0)
	holdRight(t, c, api.OK, 0)
	all[2] = least
	holdRight(t, c, api.OK, 0)
	holdRatio(t, c, 3, 0)
}

// Rule R1: cars that are not valid, with products that do not fit, have a ratio of each gear without a panic.
func TestRatioWrong(t *testing.T) {
	ends := []api.Fx{least, least + 1, -one, -1, 0, 1, one, greatest}
	for _, a := range ends {
		for _, b := range ends {
			c := geared(a, b, a, b)
			for _, gear := range []int{-2, -1, 0, 1, 2, 3, math.MaxInt, math.MinInt} {
				if car.Ratio(c, gear) != car.Ratio(c, gear) {
					t.Fatal(a, b, gear)
				}
			}
		}
	}
	for _, gear := range []int{-2, -1, 0, 1, 2, math.MaxInt, math.MinInt} {
		holdRatio(t, api.Car{}, gear, 0)
	}
	holdRatio(t, geared(greatest, 2*one, greatest), 1, greatest)
	holdRatio(t, geared(greatest, 2*one, greatest), -1, least)
	holdRatio(t, geared(least, one, least), 1, least)
	holdRatio(t, geared(least, one, least), -1, greatest)
	long := geared(one, one, slices.Repeat([]api.Fx{one}, 20)...)
	holdRatio(t, long, 20, one)
	holdRatio(t, long, 21, 0)
}

// Promise 17.3: without its last gear a valid car is valid, down to one, and its other ratios are the same; without all of them it is not.
func TestWithoutLastGear(t *testing.T) {
	c := changed(func(c *api.Car) { c.Gears = whole(1, 2, 3, 4, 5, 6, 7, 8) })
	for n := 8; n > 0; n-- {
		c.Gears = c.Gears[:n]
		holdRight(t, c, api.OK, 0)
		holdRatio(t, c, n, exact(api.Fx(n)*one, c.Final))
		holdRatio(t, c, n+1, 0)
	}
	c.Gears = c.Gears[:0]
	holdRight(t, c, api.ErrShape, 11)
}

// Rule R4: nothing of a car is changed, nor what lies behind the ends of its lists.
func TestMemory(t *testing.T) {
	spare := func(l []api.Fx) []api.Fx { return append(slices.Clone(l), -7)[:len(l)] }
	dots := func(l []api.Dot) []api.Dot { return append(slices.Clone(l), api.Dot{X: -7, Y: -7})[:len(l)] }
	c := common()
	c.Damper, c.Torque, c.Air, c.Gears = dots(c.Damper), dots(c.Torque), dots(c.Air), spare(c.Gears)
	c.Tyre.Xs, c.Tyre.Ys = spare(c.Tyre.Xs), spare(c.Tyre.Ys)
	for i, values := range c.Tyre.Rows {
		c.Tyre.Rows[i] = spare(values)
	}
	c.Tyre.Rows = append(c.Tyre.Rows, whole(-7))[:len(c.Tyre.Rows)]
	want := copied(c)
	holdRight(t, c, api.OK, 0)
	for gear := -2; gear < 6; gear++ {
		car.Ratio(c, gear)
	}
	if !reflect.DeepEqual(c, want) {
		t.Fatalf("%v was changed to %v", want, c)
	}
	behind := slices.Concat(c.Gears[:4][3:], c.Tyre.Xs[:4][3:], c.Tyre.Ys[:3][2:], c.Tyre.Rows[0][:4][3:], c.Tyre.Rows[1][:4][3:])
	for _, l := range [][]api.Dot{c.Damper[:5][4:], c.Torque[:4][3:], c.Air[:3][2:]} {
		behind = append(behind, l[0].X, l[0].Y)
	}
	if slices.ContainsFunc(behind, func(n api.Fx) bool { return n != -7 }) || c.Tyre.Rows[:3][2][0] != -7*one {
		t.Fatal("memory behind an end was changed", behind)
	}
}
