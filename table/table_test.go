package table_test

import (
	"math"
	"math/big"
	"math/rand/v2"
	"slices"
	"testing"

	"chicane/api"
	"chicane/fx"
	"chicane/table"
)

const (
	one      = api.One
	half     = api.One / 2
	most     = api.One << 20
	greatest = api.Fx(math.MaxInt64)
	least    = api.Fx(math.MinInt64)
)

// parts makes a table of parts: X and Y of each point in turn.
func parts(n ...api.Fx) []api.Dot {
	l := []api.Dot{}
	for i := 0; i < len(n); i += 2 {
		l = append(l, api.Dot{X: n[i], Y: n[i+1]})
	}
	return l
}

// whole makes a table of integers.
func whole(n ...api.Fx) []api.Dot {
	scaled := []api.Fx{}
	for _, v := range n {
		scaled = append(scaled, v*one)
	}
	return parts(scaled...)
}

// rising makes a valid table of so many points, whose Xs are the integers from 0 on.
func rising(points int) []api.Dot {
	l := []api.Dot{}
	for i := range points {
		n := api.Fx(i)
		l = append(l, api.Dot{X: n * one, Y: (n*n - 5*n) * one})
	}
	return l
}

// changed is a table with another point at a place.
func changed(l []api.Dot, place int, p api.Dot) []api.Dot {
	l = slices.Clone(l)
	l[place] = p
	return l
}

// drawer draws by a fixed rule.
type drawer struct{ *rand.Rand }

func draw(seed uint64) drawer { return drawer{rand.New(rand.NewPCG(8, seed))} }

// number draws a number whose size is at most a bound, of every length.
func (d drawer) number(bound api.Fx) api.Fx {
	bound >>= d.IntN(54)
	return api.Fx(d.Int64N(2*int64(bound)+1)) - bound
}

// valid draws a valid table.
func (d drawer) valid() []api.Dot {
	bound := most
	if d.IntN(2) == 0 {
		bound = 1 << (6 + d.IntN(44)) // points that are close to each other
	}
	xs := []api.Fx{-bound, bound}
	for range d.IntN(api.MaxRow - 1) {
		xs = append(xs, d.number(bound))
	}
	slices.Sort(xs)
	l := []api.Dot{}
	for _, x := range slices.Compact(xs) {
		l = append(l, api.Dot{X: x})
	}
	for i := range l {
		l[i].Y = d.number(most)
	}
	return l
}

// steep draws a valid table whose Ys are the bounds in turn.
func (d drawer) steep() []api.Dot {
	l := d.valid()
	for i := range l {
		l[i].Y = most * api.Fx(1-2*(i&1))
	}
	return l
}

// wild draws a list of points in any order, whose coordinates may be anything.
func (d drawer) wild() []api.Dot {
	side := func() api.Fx { return api.Fx(int64(d.Uint64()) >> (d.IntN(4) * d.IntN(21))) }
	l := []api.Dot{}
	for range d.IntN(7) {
		l = append(l, api.Dot{X: side(), Y: side()})
		if d.IntN(4) == 0 {
			l = append(l, l[d.IntN(len(l))])
		}
	}
	return l
}

// near are the Xs of a table, the numbers next to them, one between each two, and numbers far off.
func near(d drawer, l []api.Dot) []api.Fx {
	xs := []api.Fx{least, -most - 1, 0, 1, most + 1, greatest}
	for i, p := range l {
		xs = append(xs, p.X, max(p.X, least+1)-1, min(p.X, greatest-1)+1)
		if i > 0 && l[i-1].X < p.X {
			xs = append(xs, l[i-1].X+api.Fx(d.Uint64()%uint64(p.X-l[i-1].X)))
		}
	}
	return xs
}

// drawn calls with lists that are drawn, and numbers near their points.
func drawn(seed uint64, lists int, next func(d drawer) []api.Dot, call func(l []api.Dot, x api.Fx)) {
	d := draw(seed)
	for range lists {
		l := next(d)
		for _, x := range near(d, l) {
			call(l, x)
		}
	}
}

// steps reckons in big integers, and notes what does not fit: another reckoning than fx's own.
type steps struct{ over bool }

func (s *steps) fit(n *big.Int) api.Fx {
	if n.IsInt64() {
		return api.Fx(n.Int64())
	}
	s.over = true
	if n.Sign() > 0 {
		return greatest
	}
	return least
}

func (s *steps) sum(a, b api.Fx, sign int64) api.Fx {
	n := new(big.Int).Mul(big.NewInt(int64(b)), big.NewInt(sign))
	return s.fit(n.Add(n, big.NewInt(int64(a))))
}

// quotient is a * b / c, to the nearest number, and to the even one of two that are equally near; c is greater than 0.
func (s *steps) quotient(a, b, c api.Fx) api.Fx {
	below := new(big.Int).Mul(big.NewInt(int64(a)), big.NewInt(int64(b)))
	below, rest := below.DivMod(below, big.NewInt(int64(c)), new(big.Int))
	order := rest.Lsh(rest, 1).Cmp(big.NewInt(int64(c)))
	if order > 0 || order == 0 && below.Bit(0) == 1 {
		below.Add(below, big.NewInt(1))
	}
	return s.fit(below)
}

// cell reckons Cell, from the first point on.
func cell(l []api.Dot, x api.Fx) int {
	found := 0
	for i := 0; i < len(l)-1; i++ {
		if l[i].X <= x {
			found = i
		}
	}
	return found
}

// value reckons Eval.
func value(l []api.Dot, x api.Fx) (api.Fx, bool) {
	if len(l) == 0 {
		return 0, false
	}
	if first := l[0]; x <= first.X {
		return first.Y, false
	}
	if final := l[len(l)-1]; x >= final.X {
		return final.Y, false
	}
	s := &steps{}
	i := cell(l, x)
	a, b := l[i], l[i+1]
	t := s.quotient(s.sum(x, a.X, -1), one, s.sum(b.X, a.X, -1))
	y := s.sum(a.Y, s.quotient(s.sum(b.Y, a.Y, -1), t, one), 1)
	return y, s.over
}

// fault reckons Right: each point's own fault, by its sizes as big integers, and then the first of them.
func fault(l []api.Dot) api.Errno {
	if len(l) < 2 || len(l) > 32 {
		return api.ErrShape
	}
	bound := new(big.Int).Lsh(big.NewInt(1), 52)
	faults := []api.Errno{}
	for i, p := range l {
		e := api.OK
		if i > 0 && !(p.X > l[i-1].X) {
			e = api.ErrOrder
		}
		for _, n := range []api.Fx{p.X, p.Y} {
			if new(big.Int).Abs(big.NewInt(int64(n))).Cmp(bound) > 0 {
				e = api.ErrRange
			}
		}
		faults = append(faults, e)
	}
	if i := slices.IndexFunc(faults, func(e api.Errno) bool { return e != api.OK }); i >= 0 {
		return faults[i]
	}
	return api.OK
}

func holdRight(t *testing.T, l []api.Dot, want api.Errno) {
	t.Helper()
	if got := table.Right(l); got != want {
		t.Fatalf("Right(%v) = %d, not %d", l, got, want)
	}
}

func holdCell(t *testing.T, l []api.Dot, x api.Fx, want int) {
	t.Helper()
	if got := table.Cell(l, x); got != want {
		t.Fatalf("Cell(%v, %d) = %d, not %d", l, x, got, want)
	}
}

// holdEval makes the call with an M that is new, with one that has noted something already, and with none: all tell the same, and Over is noted and stays.
func holdEval(t *testing.T, l []api.Dot, x, want api.Fx, over bool) {
	t.Helper()
	fresh, old := &fx.M{}, &fx.M{Over: true}
	if got := table.Eval(fresh, l, x); got != want || fresh.Over != over {
		t.Fatalf("Eval(%v, %d) = %d and Over %v, not %d and %v", l, x, got, fresh.Over, want, over)
	}
	if got := table.Eval(old, l, x); got != want || !old.Over {
		t.Fatalf("Eval(%v, %d) = %d and Over %v where Over was true, not %d", l, x, got, old.Over, want)
	}
	if got := table.Eval(nil, l, x); got != want {
		t.Fatalf("Eval(%v, %d) = %d for nil, not %d", l, x, got, want)
	}
}

func holdBound(t *testing.T, l []api.Dot, want api.Fx) {
	t.Helper()
	if got := table.Bound(l); got != want {
		t.Fatalf("Bound(%v) = %d, not %d", l, got, want)
	}
}

// holdBetween holds a value against the Ys of the points about it.
func holdBetween(t *testing.T, l []api.Dot, x api.Fx) {
	t.Helper()
	m := &fx.M{}
	y := table.Eval(m, l, x)
	i := table.Cell(l, x)
	a, b := l[i].Y, l[i+1].Y
	if m.Over || y < min(a, b) || y > max(a, b) {
		t.Fatalf("Eval(%v, %d) = %d and Over %v, not between %d and %d", l, x, y, m.Over, a, b)
	}
}

// chapter is the chapter's table.
func chapter() []api.Dot { return whole(-1, 0, 1, 4, 2, -2) }

// Promise 8.1: the number of points, whatever the points are.
func TestRightShape(t *testing.T) {
	holdRight(t, nil, api.ErrShape)
	for points := range 100 {
		want := api.OK
		if points < 2 || points > 32 {
			want = api.ErrShape
		}
		holdRight(t, rising(points), want)
	}
	holdRight(t, parts(most+1, 0), api.ErrShape)
	holdRight(t, parts(0, least), api.ErrShape)
	holdRight(t, changed(rising(33), 0, api.Dot{X: least}), api.ErrShape)
	holdRight(t, changed(rising(33), 1, api.Dot{}), api.ErrShape)
	holdRight(t, make([]api.Dot, 33), api.ErrShape)
	holdRight(t, make([]api.Dot, 70000), api.ErrShape)
}

// Promise 8.1: coordinates at the bounds and beyond them, at every place.
func TestRightRange(t *testing.T) {
	holdRight(t, parts(-most, most, most, -most), api.OK)
	beyond := []api.Fx{most + 1, -most - 1, most + half, most << 1, greatest, least, least + 1, most + 1<<62}
	for _, n := range beyond {
		for points := 2; points <= 32; points++ {
			for place := range points {
				l := rising(points)
				holdRight(t, changed(l, place, api.Dot{X: l[place].X, Y: n}), api.ErrRange)
				holdRight(t, changed(l, place, api.Dot{X: n, Y: 0}), api.ErrRange)
				holdRight(t, changed(l, place, api.Dot{X: n, Y: n}), api.ErrRange)
				holdRight(t, changed(l, place, api.Dot{X: l[place].X, Y: most}), api.OK)
				holdRight(t, changed(l, place, api.Dot{X: l[place].X, Y: -most}), api.OK)
			}
			holdRight(t, changed(rising(points), points-1, api.Dot{X: most}), api.OK)
			holdRight(t, changed(rising(points), 0, api.Dot{X: -most}), api.OK)
		}
	}
}

// Promise 8.1: points that do not rise, at every place, and points that rise by one part.
func TestRightOrder(t *testing.T) {
	l := chapter()
	l[1].X = l[0].X
	holdRight(t, l, api.ErrOrder)
	holdRight(t, chapter(), api.OK)
	for points := 2; points <= 32; points++ {
		for place := 1; place < points; place++ {
			l := rising(points)
			x := l[place-1].X
			holdRight(t, changed(l, place, api.Dot{X: x}), api.ErrOrder)
			holdRight(t, changed(l, place, api.Dot{X: x - 1}), api.ErrOrder)
			holdRight(t, changed(l, place, api.Dot{X: -most}), api.ErrOrder)
			holdRight(t, changed(l, place, api.Dot{X: x + 1}), api.OK)
			holdRight(t, changed(l, place, api.Dot{X: x + 1, Y: l[place-1].Y}), api.OK)
		}
	}
	holdRight(t, parts(-most, 0, -most, 0), api.ErrOrder)
	holdRight(t, parts(most, 0, -most, 0), api.ErrOrder)
	holdRight(t, parts(0, 0, 1, 0, 2, 0, 2, 0), api.ErrOrder)
}

// Promise 8.1: of several faults the first point's is told, and of one point's the range.
func TestRightFirst(t *testing.T) {
	holdRight(t, parts(1, 0, 0, 0, most+1, 0), api.ErrOrder)
	holdRight(t, parts(1, 0, 0, 0, 2, least), api.ErrOrder)
	holdRight(t, parts(0, most+1, 0, 0), api.ErrRange)
	holdRight(t, parts(0, 0, 1, -most-1, 1, 0), api.ErrRange)
	holdRight(t, parts(0, 0, 0, most+1), api.ErrRange)
	holdRight(t, parts(-most, 0, -most-1, 0), api.ErrRange)
	holdRight(t, parts(0, 0, least, 0), api.ErrRange)
	d := draw(1)
	for range 20000 {
		l := d.valid()
		holdRight(t, l, api.OK)
		for range d.IntN(4) {
			place, other := d.IntN(len(l)), d.IntN(len(l))
			switch d.IntN(3) {
			case 0:
				l[place].X = l[other].X
			case 1:
				l[place].X = d.number(most + 2)
			default:
				l[place].Y = most + 1
			}
		}
		holdRight(t, l, fault(l))
		l = d.wild()
		holdRight(t, l, fault(l))
	}
}

// Promise 8.2: the segment, at the points and beside them.
func TestCell(t *testing.T) {
	l := chapter()
	for _, c := range []struct {
		x    api.Fx
		want int
	}{{-5 * one, 0}, {-one, 0}, {0, 0}, {one - 1, 0}, {one, 1}, {one + 1, 1}, {2*one - 1, 1}, {2 * one, 1}, {9 * one, 1}, {least, 0}, {greatest, 1}} {
		holdCell(t, l, c.x, c.want)
	}
	for points := 2; points <= 40; points++ {
		l := rising(points)
		for i := range points {
			n := api.Fx(i)
			end := points - 2
			holdCell(t, l, n*one-1, max(0, min(i-1, end)))
			holdCell(t, l, n*one, min(i, end))
			holdCell(t, l, n*one+half, min(i, end))
		}
	}
	drawn(2, 5000, drawer.valid, func(l []api.Dot, x api.Fx) { holdCell(t, l, x, cell(l, x)) })
}

// Promise 8.2: 0 where there are fewer than two points, or where the X of none is at most the number.
func TestCellNone(t *testing.T) {
	for _, x := range []api.Fx{least, -one, 0, 1, one, greatest} {
		holdCell(t, nil, x, 0)
		holdCell(t, []api.Dot{}, x, 0)
		holdCell(t, parts(0, 5), x, 0)
		holdCell(t, parts(least, 5), x, 0)
		holdCell(t, parts(0, 5, 0, 6), x, 0)
	}
	holdCell(t, parts(greatest, 0, greatest, 0, greatest, 0), greatest-1, 0)
	holdCell(t, whole(3, 0, 2, 0, 1, 0, 0, 0), -1, 0)
}

// Promise 8.2: the greatest such index, in whatever order points are that are not valid.
func TestCellAnyOrder(t *testing.T) {
	holdCell(t, whole(3, 0, 2, 0, 1, 0, 0, 0), one, 2)
	holdCell(t, whole(0, 0, 5, 0, 1, 0, 9, 0, 9, 0), 2*one, 2)
	holdCell(t, whole(0, 0, 5, 0, 6, 0, 7, 0, 1, 0, 9, 0, 3, 0), 2*one, 4)
	holdCell(t, whole(0, 0, 0, 0, 0, 0, 0, 0), 0, 2)
	holdCell(t, parts(0, 0, greatest, 0, least, 0, greatest, 0, greatest, 0), 0, 2)
	long := make([]api.Dot, 70000)
	holdCell(t, long, 0, 69998)
	holdCell(t, long, -1, 0)
	long[4711].X = -1
	holdCell(t, long, -1, 4711)
	drawn(3, 20000, drawer.wild, func(l []api.Dot, x api.Fx) { holdCell(t, l, x, cell(l, x)) })
}

// Promise 8.3: the chapter's tables.
func TestEval(t *testing.T) {
	for _, c := range []struct{ x, want api.Fx }{
		{-9 * one, 0}, {-one, 0}, {-half, one}, {0, 2 * one}, {half, 3 * one}, {one, 4 * one},
		{one * 5 / 4, one * 5 / 2}, {one * 3 / 2, one}, {2 * one, -2 * one}, {5 * one, -2 * one}, {least, 0}, {greatest, -2 * one},
	} {
		holdEval(t, chapter(), c.x, c.want, false)
	}
	for _, c := range []struct{ x, want api.Fx }{{one, one * 3 / 2}, {-5 * one, one}, {9 * one, 3 * one}, {0, one}, {4 * one, 3 * one}, {2 * one, 2 * one}} {
		holdEval(t, whole(0, 1, 4, 3), c.x, c.want, false)
	}
}

// Promise 8.3: no points, and one point.
func TestEvalFew(t *testing.T) {
	for _, x := range []api.Fx{least, -one, -1, 0, 1, one, greatest} {
		holdEval(t, nil, x, 0, false)
		holdEval(t, []api.Dot{}, x, 0, false)
		for _, at := range []api.Fx{0, 1, -one, least, greatest} {
			for _, y := range []api.Fx{0, 7, -one, least, greatest} {
				holdEval(t, parts(at, y), x, y, false)
			}
		}
	}
}

// Promise 8.3: the quotient is rounded, and then the product, a half to the even number.
func TestEvalRounded(t *testing.T) {
	third := (one - 1) / 3 // 4294967296 is 3 * 1431655765 + 1
	holdEval(t, parts(0, 0, 3, one), 1, third, false)
	holdEval(t, parts(0, 0, 3, one), 2, 2*third+1, false)
	// Two thirds are rounded ahead of the product: 3 times 2863311531 parts, and not 2 times 2^32.
	holdEval(t, parts(0, 0, 3, 3*one), 2, 3*(2*third+1), false)
	// Halves of a part in the product.
	holdEval(t, parts(0, 0, 2, 1), 1, 0, false)
	holdEval(t, parts(0, 0, 2, 3), 1, 2, false)
	holdEval(t, parts(0, 1, 2, 2), 1, 1, false)
	holdEval(t, parts(0, 0, 2, -1), 1, 0, false)
	holdEval(t, parts(0, 0, 2, -3), 1, -2, false)
	holdEval(t, parts(0, 3, 2, 0), 1, 1, false)
	// A half of a part in the quotient: 1 part of 2^33 is 1/2 part, and 3 are 3/2, so 0 and 2 parts.
	holdEval(t, parts(0, 0, 1<<33, 1<<40), 1, 0, false)
	holdEval(t, parts(0, 0, 1<<33, 1<<40), 3, 1<<9, false)
	holdEval(t, parts(0, 0, 1<<33, 1<<40), 5, 1<<9, false)
}

// Promise 8.3: at every point its own Y, and beside it what the steps make.
func TestEvalDrawn(t *testing.T) {
	drawn(4, 5000, drawer.valid, func(l []api.Dot, x api.Fx) {
		want, over := value(l, x)
		if i := slices.IndexFunc(l, func(p api.Dot) bool { return p.X == x }); i >= 0 {
			want = l[i].Y
		}
		holdEval(t, l, x, want, over)
	})
}

// Promise 8.3: points that are not valid: the ends in turn, and then the segment of Cell, in steps that may not fit.
func TestEvalAnyOrder(t *testing.T) {
	holdEval(t, whole(1, 5, 0, 6), one, 5*one, false)
	holdEval(t, whole(1, 5, 0, 6), half, 5*one, false)
	holdEval(t, whole(1, 5, 0, 6), 2*one, 6*one, false)
	holdEval(t, whole(0, 5, 0, 6), 0, 5*one, false)
	holdEval(t, whole(0, 5, 0, 6), 1, 6*one, false)
	holdEval(t, whole(0, 0, 8, 1, 2, 2, 4, 4), 3*one, 3*one, false)
	holdEval(t, whole(0, 0, 2, 2, 2, 5, 4, 7), 2*one, 5*one, false)
	// b.X - a.X does not fit: the greatest number stands for it.
	holdEval(t, parts(least, 0, greatest, one), 0, one, true)
	holdEval(t, parts(least, 0, greatest, one), least+1<<62, half, true)
	// b.Y - a.Y does not fit.
	holdEval(t, parts(0, least, 2, greatest), 1, -1<<62, true)
	holdEval(t, parts(0, greatest, 2, least), 1, 1<<62-1, true)
	notes := 0
	drawn(5, 20000, drawer.wild, func(l []api.Dot, x api.Fx) {
		want, over := value(l, x)
		holdEval(t, l, x, want, over)
		if over {
			notes++
		}
	})
	if notes < 1000 {
		t.Fatalf("only %d results that do not fit", notes)
	}
}

// Promise 8.4: the greatest size of a Y, at whatever place and of whatever sign.
func TestBound(t *testing.T) {
	holdBound(t, chapter(), 4*one)
	holdBound(t, whole(-9, 1, 0, -3, 7, 2), 3*one)
	holdBound(t, whole(-9, 0, 7, 0), 0)
	holdBound(t, parts(-most, -most, most, most-1), most)
	holdBound(t, parts(-most, -1, most, 0), 1)
	for points := 2; points <= 32; points++ {
		for place := range points {
			l := make([]api.Dot, points)
			for i := range l {
				l[i] = api.Dot{X: api.Fx(i), Y: one - api.Fx(i)}
			}
			holdBound(t, changed(l, place, api.Dot{X: l[place].X, Y: most}), most)
			holdBound(t, changed(l, place, api.Dot{X: l[place].X, Y: -one - 1}), one+1)
		}
	}
	d := draw(6)
	for range 20000 {
		l := d.valid()
		ys := []api.Fx{}
		for _, p := range l {
			ys = append(ys, p.Y, -p.Y)
		}
		holdBound(t, l, slices.Max(ys))
	}
}

// Promise 8.5: for valid tables everything fits, and the value is between the Ys of both points.
func TestBetween(t *testing.T) {
	l := parts(-most, -most, most, most)
	holdEval(t, l, 0, 0, false)
	holdEval(t, l, half, half, false)
	holdEval(t, l, most-1, most, false) // the quotient is rounded to 1, and the value reaches the last Y, and no further
	drawn(7, 5000, drawer.valid, func(l []api.Dot, x api.Fx) { holdBetween(t, l, x) })
	drawn(9, 5000, drawer.steep, func(l []api.Dot, x api.Fx) { holdBetween(t, l, x) })
}

// Promise 8.5: a table whose Ys never decrease makes a function that never does, and likewise one whose Ys never increase.
func TestMonotone(t *testing.T) {
	d := draw(8)
	for range 3000 {
		l := d.valid()
		ys := []api.Fx{}
		for _, p := range l {
			ys = append(ys, p.Y)
		}
		slices.Sort(ys)
		down := slices.Clone(l)
		for i := range l {
			l[i].Y = ys[i]
			down[i].Y = -ys[i]
		}
		xs := near(d, l)
		for range 20 {
			x := d.number(most)
			xs = append(xs, x, x+1, x+2)
		}
		slices.Sort(xs)
		for i := 1; i < len(xs); i++ {
			if a, b := table.Eval(nil, l, xs[i-1]), table.Eval(nil, l, xs[i]); a > b {
				t.Fatalf("%v: %d at %d, and %d at %d", l, a, xs[i-1], b, xs[i])
			}
			if a, b := table.Eval(nil, down, xs[i-1]), table.Eval(nil, down, xs[i]); a < b {
				t.Fatalf("%v: %d at %d, and %d at %d", down, a, xs[i-1], b, xs[i])
			}
		}
	}
}

// Promise 8.5: part by part, where points are close to each other.
func TestMonotoneParts(t *testing.T) {
	l := parts(-40, -most, -39, -7, -3, -7, 0, -6, 11, one, 24, one+1, 700, most)
	before := api.Fx(-most)
	for x := api.Fx(-50); x <= 710; x++ {
		y := table.Eval(nil, l, x)
		if y < before {
			t.Fatalf("%d at %d, below %d", y, x, before)
		}
		before = y
	}
	if before != most {
		t.Fatalf("%d at the end", before)
	}
}

// Rule R1: every call returns, whatever the points are.
func TestTotal(t *testing.T) {
	holdBound(t, nil, 0)
	lists := [][]api.Dot{nil, {}, parts(least, least), parts(least, least, greatest, greatest), parts(greatest, least, least, greatest), make([]api.Dot, 100)}
	for _, l := range lists {
		for _, x := range []api.Fx{least, -1, 0, 1, greatest} {
			table.Right(l)
			table.Cell(l, x)
			table.Eval(&fx.M{}, l, x)
			table.Eval(nil, l, x)
			table.Bound(l)
		}
	}
}

// Rule R4: points are not changed, nor what lies behind them, and nothing is kept of them.
func TestArgumentsKept(t *testing.T) {
	store := append(chapter(), whole(3, 9, 4, -9)...)
	l := store[:3]
	for range 2 {
		holdRight(t, l, api.OK)
		holdCell(t, l, 9*one, 1)
		holdEval(t, l, 9*one, -2*one, false)
		holdBound(t, l, 4*one)
	}
	if !slices.Equal(store, append(chapter(), whole(3, 9, 4, -9)...)) {
		t.Fatalf("points are now %v", store)
	}
	l[1].Y = 6 * one
	holdEval(t, l, 0, 3*one, false)
	holdBound(t, l, 6*one)
}
