package spline_test

import (
	"math"
	"math/big"
	"math/rand/v2"
	"slices"
	"testing"

	"chicane/api"
	"chicane/fx"
	"chicane/spline"
)

const (
	one      = api.One
	half     = api.One / 2
	most     = api.MaxExtent
	greatest = api.Fx(math.MaxInt64)
	least    = api.Fx(math.MinInt64)
)

// parts makes places of parts: X and Y of each place in turn.
func parts(n ...api.Fx) []api.V2 {
	l := []api.V2{}
	for i := 0; i < len(n); i += 2 {
		l = append(l, api.V2{X: n[i], Y: n[i+1]})
	}
	return l
}

// whole makes places of integers.
func whole(n ...api.Fx) []api.V2 {
	scaled := []api.Fx{}
	for _, v := range n {
		scaled = append(scaled, v*one)
	}
	return parts(scaled...)
}

// square is the chapter's line.
func square() []api.V2 { return whole(0, 0, 8, 0, 8, 8, 0, 8) }

// round makes a valid line of so many points, all of them different.
func round(points int) []api.V2 {
	l := []api.V2{}
	for i := range points {
		n := api.Fx(i)
		l = append(l, api.V2{X: (n*n - 3*n) * one, Y: (7 - 2*n) * one})
	}
	return l
}

// changed is a list with another place at an index.
func changed(l []api.V2, index int, p api.V2) []api.V2 {
	l = slices.Clone(l)
	l[index] = p
	return l
}

// beyond are coordinates that are too great, of either sign.
func beyond() []api.Fx {
	return []api.Fx{most + 1, -most - 1, most << 1, -most << 1, most + 1<<62, greatest, greatest - 1, least, least + 1}
}

// spoilt are lists with one coordinate beyond the bounds, at every place.
func spoilt(l []api.V2, call func(l []api.V2)) {
	for place, p := range l {
		for _, n := range beyond() {
			call(changed(l, place, api.V2{X: n, Y: p.Y}))
			call(changed(l, place, api.V2{X: p.X, Y: n}))
			call(changed(l, place, api.V2{X: n, Y: n}))
		}
	}
}

// wrong are lines that are not valid: of too few points, of too many, and with a coordinate beyond the bounds.
func wrong(call func(l []api.V2)) {
	for _, points := range []int{0, 1, 2, api.MaxLine + 1, api.MaxLine + 2, 1000} {
		call(round(points))
		call(make([]api.V2, points))
	}
	call(nil)
	for _, points := range []int{3, 4, api.MaxLine} {
		spoilt(round(points), call)
	}
}

// drawer draws by a fixed rule.
type drawer struct{ *rand.Rand }

func draw(seed uint64) drawer { return drawer{rand.New(rand.NewPCG(11, seed))} }

// number draws a number whose size is at most a bound.
func (d drawer) number(bound api.Fx) api.Fx {
	return api.Fx(d.Int64N(2*int64(bound)+1)) - bound
}

// places draws so many places within the bounds: far off or close to each other, of all coordinates or of few.
func (d drawer) places(count int) []api.V2 {
	bound := most >> d.IntN(49)
	side := func() api.Fx {
		switch d.IntN(12) {
		case 0:
			return bound
		case 1:
			return -bound
		}
		return d.number(bound)
	}
	l := []api.V2{}
	for range count {
		l = append(l, api.V2{X: side(), Y: side()})
	}
	return l
}

// line draws a valid line.
func (d drawer) line() []api.V2 {
	if d.IntN(3) == 0 {
		return d.places(3 + d.IntN(3))
	}
	return d.places(3 + d.IntN(api.MaxLine-2))
}

// wild draws places whose coordinates may be anything.
func (d drawer) wild() []api.V2 {
	side := func() api.Fx { return api.Fx(int64(d.Uint64()) >> (d.IntN(4) * d.IntN(21))) }
	l := []api.V2{}
	for range d.IntN(7) {
		l = append(l, api.V2{X: side(), Y: side()})
		if d.IntN(4) == 0 {
			l = append(l, l[d.IntN(len(l))])
		}
	}
	return l
}

// moments are numbers t: in a segment, at its ends, outside it, and so far off that a place may not fit.
func moments(d drawer) []api.Fx {
	l := []api.Fx{0, 1, 2, 3, one / 8, one / 4, one / 3, half - 1, half, half + 1, one * 7 / 8, one - 1, one, one + 1, 2 * one, -1, -2, -half, -one, -3 * one, most, -most, greatest, least, least + 1}
	for range 4 {
		l = append(l, d.number(one), d.number(one<<d.IntN(30)), api.Fx(int64(d.Uint64())))
	}
	return l
}

// segments are numbers of segments: of the line, behind it, ahead of it, and at the ends of the range.
func segments(d drawer, points int) []int {
	l := []int{0, 1, points - 1, points, points + 1, 2*points + 1, -1, -points, -points - 1, -points + 1, 1000003, -1000003}
	l = append(l, math.MaxInt, math.MaxInt-1, math.MaxInt-2, math.MinInt, math.MinInt+1, math.MinInt+2, math.MaxInt32, math.MinInt32)
	return append(l, d.IntN(points), int(d.Uint64()), -d.IntN(1000))
}

// steps reckons in big integers, and notes what does not fit: another reckoning than fx's own.
type steps struct{ over bool }

func (s *steps) fit(n *big.Int) api.Fx {
	if n.IsInt64() {
		return api.Fx(n.Int64())
	}
	s.over = true
	if n.Sign() > 0 {
		return greatest
	}
	return least
}

// sum is a + sign b.
func (s *steps) sum(a, b api.Fx, sign int64) api.Fx {
	n := new(big.Int).Mul(big.NewInt(int64(b)), big.NewInt(sign))
	return s.fit(n.Add(n, big.NewInt(int64(a))))
}

// product is a b, to the nearest number, and to the even one of two that are equally near.
func (s *steps) product(a, b api.Fx) api.Fx {
	below := new(big.Int).Mul(big.NewInt(int64(a)), big.NewInt(int64(b)))
	below, rest := below.DivMod(below, big.NewInt(int64(one)), new(big.Int))
	order := rest.Cmp(big.NewInt(int64(half)))
	if order > 0 || order == 0 && below.Bit(0) == 1 {
		below.Add(below, big.NewInt(1))
	}
	return s.fit(below)
}

// squares is the exact sum of two squares.
func squares(x, y *big.Int) *big.Int {
	n := new(big.Int).Mul(x, x)
	return n.Add(n, new(big.Int).Mul(y, y))
}

// length is the exact length of a way, rounded down.
func (s *steps) length(x, y api.Fx) api.Fx {
	n := squares(big.NewInt(int64(x)), big.NewInt(int64(y)))
	return s.fit(n.Sqrt(n))
}

// weighted is the exact sum of coordinates, each with its factor; those of valid lines fit.
func weighted(p [4]api.Fx, factors [4]int64) api.Fx {
	n := new(big.Int)
	for k, f := range factors {
		n.Add(n, new(big.Int).Mul(big.NewInt(int64(p[k])), big.NewInt(f)))
	}
	return api.Fx(n.Int64())
}

// coordinate reckons one coordinate of At, from the four points' ones.
func (s *steps) coordinate(p [4]api.Fx, t api.Fx) api.Fx {
	n := weighted(p, [4]int64{-1, 3, -3, 1})
	for _, factors := range [][4]int64{{2, -5, 4, -1}, {-1, 0, 1, 0}, {0, 2, 0, 0}} {
		n = s.sum(weighted(p, factors), s.product(n, t), 1)
	}
	return s.product(n, half)
}

// at reckons At for a valid line; the four points are looked for one by one, with numbers that have no end.
func at(l []api.V2, i int, t api.Fx) (api.V2, bool) {
	var x, y [4]api.Fx
	for k := range 4 {
		n := new(big.Int).Add(big.NewInt(int64(i)), big.NewInt(int64(k-1)))
		p := l[n.Mod(n, big.NewInt(int64(len(l)))).Int64()]
		x[k], y[k] = p.X, p.Y
	}
	s := &steps{}
	return api.V2{X: s.coordinate(x, t), Y: s.coordinate(y, t)}, s.over
}

// lengths reckons Lengths.
func lengths(s []api.V2) ([]api.Fx, bool) {
	r := &steps{}
	l := []api.Fx{0}
	for i, p := range s {
		q := s[0]
		if i+1 < len(s) {
			q = s[i+1]
		}
		l = append(l, r.sum(l[i], r.length(r.sum(q.X, p.X, -1), r.sum(q.Y, p.Y, -1)), 1))
	}
	return l, r.over
}

// inBounds tells whether no coordinate is too great.
func inBounds(l []api.V2) bool {
	bound := new(big.Int).Lsh(big.NewInt(1), 48)
	return !slices.ContainsFunc(l, func(p api.V2) bool {
		x, y := big.NewInt(int64(p.X)), big.NewInt(int64(p.Y))
		return x.CmpAbs(bound) > 0 || y.CmpAbs(bound) > 0
	})
}

// nearest reckons Nearest, from the last sample on.
func nearest(s []api.V2, p api.V2) int {
	if !inBounds(append([]api.V2{p}, s...)) {
		return -1
	}
	found, size := -1, new(big.Int)
	for i := len(s) - 1; i >= 0; i-- {
		n := squares(big.NewInt(int64(s[i].X)-int64(p.X)), big.NewInt(int64(s[i].Y)-int64(p.Y)))
		if found < 0 || n.Cmp(size) <= 0 {
			found, size = i, n
		}
	}
	return found
}

// fault reckons Right.
func fault(l []api.V2) api.Errno {
	switch {
	case len(l) < 3 || len(l) > 64:
		return api.ErrShape
	case !inBounds(l):
		return api.ErrRange
	}
	return api.OK
}

// some are the first elements of a long list, for what is told of it.
func some[E any](l []E) []E { return l[:min(len(l), 64)] }

// differ tells where lists differ first.
func differ[E comparable](got, want []E) int {
	i := 0
	for i < min(len(got), len(want)) && got[i] == want[i] {
		i++
	}
	return i
}

func holdRight(t *testing.T, l []api.V2, want api.Errno) {
	t.Helper()
	if got := spline.Right(l); got != want {
		t.Fatalf("Right(%v) = %d, not %d", some(l), got, want)
	}
}

// holdM makes a call with an M that is new, with one that has noted something already, and with none; what it notes is held, and that this stays.
func holdM(t *testing.T, over bool, call func(m *fx.M)) {
	t.Helper()
	fresh, old := &fx.M{}, &fx.M{Over: true}
	call(fresh)
	call(old)
	call(nil)
	if fresh.Over != over || !old.Over {
		t.Fatalf("Over is %v, and %v where it was true, and not %v and true", fresh.Over, old.Over, over)
	}
}

func holdAt(t *testing.T, l []api.V2, i int, moment api.Fx, want api.V2, over bool) {
	t.Helper()
	holdM(t, over, func(m *fx.M) {
		t.Helper()
		if got := spline.At(m, l, i, moment); got != want {
			t.Fatalf("At(%v, %d, %d) = %v, not %v", some(l), i, moment, got, want)
		}
	})
}

func holdSamples(t *testing.T, l, want []api.V2) {
	t.Helper()
	holdM(t, false, func(m *fx.M) {
		t.Helper()
		if got := spline.Samples(m, l); !slices.Equal(got, want) {
			i := differ(got, want)
			t.Fatalf("Samples(%v): %d of them, not %d, and from %d on %v, not %v", some(l), len(got), len(want), i, some(got[i:]), some(want[i:]))
		}
	})
}

func holdLengths(t *testing.T, s []api.V2, want []api.Fx, over bool) {
	t.Helper()
	holdM(t, over, func(m *fx.M) {
		t.Helper()
		if got := spline.Lengths(m, s); !slices.Equal(got, want) {
			i := differ(got, want)
			t.Fatalf("Lengths(%v): %d of them, not %d, and from %d on %v, not %v", some(s), len(got), len(want), i, some(got[i:]), some(want[i:]))
		}
	})
}

func holdNearest(t *testing.T, s []api.V2, p api.V2, want int) {
	t.Helper()
	if got := spline.Nearest(s, p); got != want {
		t.Fatalf("Nearest(%v, %v) = %d, not %d", some(s), p, got, want)
	}
}

// Promise 11.1: the number of points, whatever the points are.
func TestRightShape(t *testing.T) {
	holdRight(t, nil, api.ErrShape)
	for points := range 200 {
		want := api.OK
		if points < 3 || points > 64 {
			want = api.ErrShape
		}
		holdRight(t, round(points), want)
		holdRight(t, make([]api.V2, points), want)
	}
	holdRight(t, make([]api.V2, 70000), api.ErrShape)
	holdRight(t, make([]api.V2, 1<<16+3), api.ErrShape)
}

// Promise 11.1: coordinates at the bounds and one part beyond them, of either sign and at every place.
func TestRightRange(t *testing.T) {
	holdRight(t, parts(most, most, -most, -most, most, -most, -most, most), api.OK)
	for points := 3; points <= 64; points++ {
		spoilt(round(points), func(l []api.V2) { holdRight(t, l, api.ErrRange) })
		for place := range points {
			for _, n := range []api.Fx{most, -most, most - 1, 1 - most, 0} {
				l := round(points)
				holdRight(t, changed(l, place, api.V2{X: n, Y: l[place].Y}), api.OK)
				holdRight(t, changed(l, place, api.V2{X: l[place].X, Y: n}), api.OK)
				holdRight(t, changed(l, place, api.V2{X: n, Y: n}), api.OK)
			}
		}
	}
}

// Promise 11.1: the shape is told ahead of the range.
func TestRightFirst(t *testing.T) {
	for _, points := range []int{1, 2, 65, 66} {
		spoilt(round(points), func(l []api.V2) { holdRight(t, l, api.ErrShape) })
	}
	d := draw(1)
	for range 20000 {
		l := d.places(d.IntN(70))
		if len(l) > 0 && d.IntN(2) == 0 {
			l[d.IntN(len(l))].X = d.number(2 * most)
			l[d.IntN(len(l))].Y = d.number(2 * most)
		}
		holdRight(t, l, fault(l))
		l = d.wild()
		holdRight(t, l, fault(l))
	}
}

// Promise 11.2: the chapter's line, by pen and paper.
func TestAt(t *testing.T) {
	for _, c := range []struct {
		i    int
		t    api.Fx
		want api.V2
	}{
		{0, 0, api.V2{}},
		{0, half, api.V2{X: 4 * one, Y: -one}},
		{1, half, api.V2{X: 9 * one, Y: 4 * one}},
		{2, half, api.V2{X: 4 * one, Y: 9 * one}},
		{3, half, api.V2{X: -one, Y: 4 * one}},
		{4, half, api.V2{X: 4 * one, Y: -one}},
		{-1, half, api.V2{X: -one, Y: 4 * one}},
		{-3, 0, api.V2{X: 8 * one}},
		{7, 0, api.V2{Y: 8 * one}},
		// X: a 8, b 24, c -16; Y: a -8, b 8, c 0.
		{0, one / 4, api.V2{X: one * 13 / 8, Y: -one * 3 / 4}},
		{0, one, api.V2{X: 8 * one}},
		{0, 2 * one, api.V2{X: -8 * one, Y: 8 * one}},
		{0, -one, api.V2{X: 16 * one, Y: 8 * one}},
	} {
		holdAt(t, square(), c.i, c.t, c.want, false)
	}
}

// Promise 11.2: four coordinates that each count for themselves, so that none can stand for another.
func TestAtEachPoint(t *testing.T) {
	// At 1/2 they count -1/16, 9/16, 9/16 and -1/16.
	l := whole(16, 0, 0, 16, 0, 0, 0, 0, 0, 0)
	for _, c := range []struct {
		i    int
		want api.V2
	}{{0, api.V2{X: 9 * one, Y: 9 * one}}, {1, api.V2{X: -one, Y: 9 * one}}, {2, api.V2{Y: -one}}, {3, api.V2{X: -one}}, {4, api.V2{X: 9 * one, Y: -one}}} {
		holdAt(t, l, c.i, half, c.want, false)
	}
	// At 1/4: -9/128, 111/128, 29/128 and -3/128.
	l = whole(128, 0, 0, 128, 0, 0, 0, 0, 0, 0)
	for _, c := range []struct {
		i    int
		want api.V2
	}{{0, api.V2{X: 111 * one, Y: 29 * one}}, {1, api.V2{X: -9 * one, Y: 111 * one}}, {2, api.V2{Y: -9 * one}}, {3, api.V2{X: -3 * one}}, {4, api.V2{X: 29 * one, Y: -3 * one}}} {
		holdAt(t, l, c.i, one/4, c.want, false)
	}
}

// Promise 11.2: of three points the one ahead of a segment is the one behind it too.
func TestAtThree(t *testing.T) {
	l := whole(16, 0, 0, 16, -16, -32)
	holdAt(t, l, 0, half, api.V2{X: 11 * one, Y: 13 * one}, false)
	holdAt(t, l, 1, half, api.V2{X: -11 * one, Y: -9 * one}, false)
	holdAt(t, l, 2, half, api.V2{Y: -20 * one}, false)
	for i := -9; i < 9; i++ {
		holdAt(t, l, i, 0, l[(i+9)%3], false)
	}
}

// Promise 11.2: a segment is taken modulo the number of points, for all integers.
func TestAtSegments(t *testing.T) {
	for points := 3; points <= 64; points++ {
		l := round(points)
		for i := -3 * points; i <= 3*points; i++ {
			k := (i + 3*points) % points
			holdAt(t, l, i, 0, l[k], false)
			want, _ := at(l, k, one/3)
			holdAt(t, l, i, one/3, want, false)
		}
	}
	// 2^63 is 2 modulo 3, and 3 modulo 5.
	three, five := round(3), round(5)
	holdAt(t, three, math.MaxInt, 0, three[1], false)
	holdAt(t, three, math.MinInt, 0, three[1], false)
	holdAt(t, five, math.MaxInt, 0, five[2], false)
	holdAt(t, five, math.MinInt, 0, five[2], false)
}

// Promise 11.2: each product is rounded, a half to the even number, and the last one too.
func TestAtRounded(t *testing.T) {
	// Points of a straight line at equal steps: b and c are 0, and a is two steps, so that the place is half of the rounded product of two steps and t.
	for _, c := range []struct {
		step, t, want api.Fx
	}{
		{1, half, 0},   // 1/2
		{3, half, 2},   // 3/2
		{5, half, 2},   // 5/2
		{7, half, 4},   // 7/2
		{-1, half, 0},  // -1/2
		{-3, half, -2}, // -3/2
		{-5, half, -2}, // -5/2
		{1, -half, 0},  // -1/2
		{3, -half, -2}, // -3/2
		{1, half + 1, 0},
		{1, one * 3 / 4, 1},   // 3/2 is 2, and its half 1
		{1, one*3/4 - 1, 0},   // just below 3/2 is 1, and its half 0
		{-1, one * 3 / 4, -1}, // likewise
		{-1, one*3/4 - 1, 0},  // likewise
		{5, one / 4, 1},       // 5/2 is 2
		{11, one / 4, 3},      // 11/2 is 6
		{3, one/4 - 1, 0},     // just below 3/2 is 1
		{7, one * 3 / 4, 5},   // 21/2 is 10
		{7, one*3/4 + 1, 6},   // just above 21/2 is 11, and its half 6
		{-7, one * 3 / 4, -5}, // likewise
		{-7, one*3/4 + 1, -6}, // likewise
	} {
		holdAt(t, parts(-c.step, 0, 0, 0, c.step, 0, 2*c.step, 0, 0, 0), 1, c.t, api.V2{X: c.want}, false)
		holdAt(t, parts(0, -c.step, 0, 0, 0, c.step, 0, 2*c.step, 0, 0), 1, c.t, api.V2{Y: c.want}, false)
	}
	// Step by step: c t, b + that, that times t, and so on, each of them rounded for itself.
	l := parts(0, 0, 0, 0, 1, 3, 0, 1, 5, 7)
	for i := range 5 {
		for _, moment := range []api.Fx{half, one / 4, one * 3 / 4, one / 3, one / 5, 3 * half, -half, one/8 + 1} {
			want, _ := at(l, i, moment)
			holdAt(t, l, i, moment, want, false)
		}
	}
}

// Promise 11.2: lines that are drawn, with segments and numbers t of all kinds, that fit or not.
func TestAtDrawn(t *testing.T) {
	d := draw(2)
	fits, notes := 0, 0
	for range 1500 {
		l := d.line()
		for _, moment := range moments(d) {
			all := segments(d, len(l))
			for range 4 {
				i := all[d.IntN(len(all))]
				want, over := at(l, i, moment)
				holdAt(t, l, i, moment, want, over)
				if over {
					notes++
				} else {
					fits++
				}
			}
		}
	}
	if fits < 10000 || notes < 10000 {
		t.Fatalf("only %d results that fit, and %d that do not", fits, notes)
	}
}

// Promise 11.2: what does not fit is noted, in either coordinate alone, and is the greatest or the least number.
func TestAtOver(t *testing.T) {
	// Coordinates that are 0 all along fit, whatever t is: the other ones alone do not.
	flat := whole(0, 0, 8, 0, 0, 0, -8, 0)
	for _, far := range []api.Fx{greatest, least, least + 1, one << 28, -one << 28} {
		for i := range 4 {
			want, over := at(flat, i, far)
			holdAt(t, flat, i, far, want, over)
			turned := []api.V2{}
			for _, p := range flat {
				turned = append(turned, api.V2{X: p.Y, Y: p.X})
			}
			holdAt(t, turned, i, far, api.V2{X: want.Y, Y: want.X}, over)
		}
	}
	// One place all along: every product is 0, and every t fits.
	for _, far := range []api.Fx{greatest, least, 1 << 62} {
		holdAt(t, parts(most, -most, most, -most, most, -most), 1, far, api.V2{X: most, Y: -most}, false)
	}
	// A straight line of equal steps: a alone counts, and it is 2.
	straight := whole(-1, 0, 0, 0, 1, 0, 2, 0, 7, 7)
	holdAt(t, straight, 1, greatest, api.V2{X: 1 << 62}, true)
	holdAt(t, straight, 1, least, api.V2{X: -1 << 62}, true)
	holdAt(t, straight, 1, 1<<62-1, api.V2{X: 1<<62 - 1}, false)
	holdAt(t, straight, 1, 1<<62, api.V2{X: 1 << 62}, true)
	holdAt(t, straight, 1, -1<<62, api.V2{X: -1 << 62}, false)
	holdAt(t, straight, 1, -1<<62-1, api.V2{X: -1 << 62}, true)
	upright := whole(0, -1, 0, 0, 0, 1, 0, 2, 7, 7)
	holdAt(t, upright, 1, 1<<62-1, api.V2{Y: 1<<62 - 1}, false)
	holdAt(t, upright, 1, 1<<62, api.V2{Y: 1 << 62}, true)
	holdAt(t, upright, 1, -1<<62-1, api.V2{Y: -1 << 62}, true)
	// The point on such a line is 1 further on: the product fits, and the sum of it and the point twice does not.
	straight, upright = whole(0, 0, 1, 0, 2, 0, 3, 0, 7, 7), whole(0, 0, 0, 1, 0, 2, 0, 3, 7, 7)
	for _, c := range []struct {
		t, want api.Fx
		over    bool
	}{{1<<62 - one - 1, 1<<62 - 1, false}, {1<<62 - one, 1 << 62, true}, {1<<62 - 1, 1 << 62, true}, {-1 << 62, -1<<62 + one, false}} {
		holdAt(t, straight, 1, c.t, api.V2{X: c.want}, c.over)
		holdAt(t, upright, 1, c.t, api.V2{Y: c.want}, c.over)
	}
}

// Promise 11.2: at the bounds everything fits as long as t is from 0 to 1.
func TestAtBounds(t *testing.T) {
	d := draw(3)
	side := func() api.Fx { return most * api.Fx(1-2*d.IntN(2)) }
	for range 3000 {
		l := []api.V2{}
		for range 3 + d.IntN(6) {
			l = append(l, api.V2{X: side(), Y: side()})
		}
		for _, moment := range []api.Fx{0, 1, half, one - 1, one, api.Fx(d.Uint64N(1 << 32))} {
			i := d.IntN(len(l))
			want, over := at(l, i, moment)
			if over {
				t.Fatalf("the reckoning does not fit for %v at %d", l, moment)
			}
			holdAt(t, l, i, moment, want, false)
		}
	}
}

// Promise 11.2: zeros for a line that is not valid, and nothing is noted.
func TestAtWrong(t *testing.T) {
	wrong(func(l []api.V2) {
		for _, i := range []int{0, 1, -1, math.MaxInt, math.MinInt} {
			for _, moment := range []api.Fx{0, half, one, greatest, least} {
				holdAt(t, l, i, moment, api.V2{}, false)
			}
		}
	})
}

// Promise 11.3: the chapter's line.
func TestSamples(t *testing.T) {
	s := spline.Samples(nil, square())
	if len(s) != 32 {
		t.Fatalf("%d samples", len(s))
	}
	for i, p := range square() {
		if s[8*i] != p {
			t.Fatalf("sample %d is %v", 8*i, s[8*i])
		}
	}
	// X: a 8, b 24, c -16; Y: a -8, b 8, c 0.
	for k, want := range parts(
		0, 0, one*43/64, -one*7/16, one*13/8, -one*3/4, one*177/64, -one*15/16,
		4*one, -one, one*335/64, -one*15/16, one*51/8, -one*3/4, one*469/64, -one*7/16,
		8*one, 0, one*135/16, one*43/64,
	) {
		if s[k] != want {
			t.Fatalf("sample %d is %v, not %v", k, s[k], want)
		}
	}
}

// Promise 11.3: of each segment in turn the places at 0, 1/8 and so on, as At tells them; all of them fit.
func TestSamplesDrawn(t *testing.T) {
	d := draw(4)
	lines := [][]api.V2{}
	for points := 3; points <= 64; points++ {
		lines = append(lines, round(points), d.places(points))
	}
	for range 200 {
		lines = append(lines, d.line())
	}
	for _, l := range lines {
		want := []api.V2{}
		for i := range l {
			for k := range api.Fx(8) {
				p, over := at(l, i, one*k/8)
				if over || p != spline.At(nil, l, i, one*k/8) {
					t.Fatalf("%v on segment %d at %d of 8 of %v", p, i, k, l)
				}
				want = append(want, p)
			}
		}
		holdSamples(t, l, want)
	}
}

// Promise 11.3: nothing for a line that is not valid.
func TestSamplesWrong(t *testing.T) {
	wrong(func(l []api.V2) { holdSamples(t, l, nil) })
}

// Promise 11.3: distances along samples, none of them too, and one alone.
func TestLengths(t *testing.T) {
	holdLengths(t, nil, []api.Fx{0}, false)
	holdLengths(t, []api.V2{}, []api.Fx{0}, false)
	for _, p := range parts(0, 0, one, -one, most, most, greatest, least) {
		holdLengths(t, []api.V2{p}, []api.Fx{0, 0}, false)
		holdLengths(t, []api.V2{p, p, p}, []api.Fx{0, 0, 0, 0}, false)
	}
	holdLengths(t, whole(0, 0, 3, 4), []api.Fx{0, 5 * one, 10 * one}, false)
	holdLengths(t, whole(0, 0, 3, 4, 3, 16), []api.Fx{0, 5 * one, 17 * one, 17*one + 69917002077}, false) // the root of 265, rounded down
	holdLengths(t, whole(1, 1, 1, 9, 7, 1, -5, 10), []api.Fx{0, 8 * one, 18 * one, 33 * one, 33*one + 46457174436}, false)
	holdLengths(t, square(), []api.Fx{0, 8 * one, 16 * one, 24 * one, 32 * one}, false)
}

// Promise 11.3: each way is rounded down by itself, as Len2 rounds it.
func TestLengthsRounded(t *testing.T) {
	holdLengths(t, parts(0, 0, 1, 1, 2, 2, 3, 3), []api.Fx{0, 1, 2, 3, 7}, false)
	holdLengths(t, parts(0, 0, 1, 2, 3, 3, 5, 4, 6, 2), []api.Fx{0, 2, 4, 6, 8, 14}, false)
	holdLengths(t, parts(-5, 0, -3, 2, -1, 4), []api.Fx{0, 2, 4, 9}, false)
}

// Promise 11.3: samples need not be a line's: few, many, and beyond the bounds; what does not fit is noted.
func TestLengthsAny(t *testing.T) {
	holdLengths(t, parts(0, 0, greatest, 0), []api.Fx{0, greatest, greatest}, true)
	holdLengths(t, parts(0, 0, 1<<61, 0), []api.Fx{0, 1 << 61, 1 << 62}, false)
	holdLengths(t, parts(0, 0, 1<<62-1, 0), []api.Fx{0, 1<<62 - 1, greatest - 1}, false)
	holdLengths(t, parts(0, 0, 0, 1<<62), []api.Fx{0, 1 << 62, greatest}, true)
	holdLengths(t, parts(least, 0, 0, 0), []api.Fx{0, greatest, greatest}, true)
	holdLengths(t, parts(0, least, 0, greatest), []api.Fx{0, greatest, greatest}, true)
	// To and fro: 2^15 ways of 2^16 make 2^31, which does not fit any more.
	long := []api.V2{}
	want := []api.Fx{0}
	for i := range api.Fx(1<<15 + 2) {
		long = append(long, api.V2{X: i % 2 * most, Y: 7})
		far := greatest
		if i+1 < 1<<15 {
			far = (i + 1) * most
		}
		want = append(want, far)
	}
	holdLengths(t, long[:1<<15-2], want[:1<<15-1], false)
	holdLengths(t, long[:1<<15], want[:1<<15+1], true)
	holdLengths(t, long, want, true)
	holdLengths(t, make([]api.V2, 70000), make([]api.Fx, 70001), false)
	d := draw(5)
	notes := 0
	for range 20000 {
		for _, s := range [][]api.V2{d.wild(), d.places(d.IntN(9))} {
			want, over := lengths(s)
			holdLengths(t, s, want, over)
			if over {
				notes++
			}
		}
	}
	if notes < 1000 {
		t.Fatalf("only %d results that do not fit", notes)
	}
}

// Promise 11.3: the samples of lines: one number more than samples, and none of them is less than the one ahead of it.
func TestLengthsOfSamples(t *testing.T) {
	d := draw(6)
	for range 300 {
		s := spline.Samples(nil, d.line())
		want, over := lengths(s)
		if over || len(want) != len(s)+1 || !slices.IsSorted(want) {
			t.Fatalf("the reckoning tells %v for %v", some(want), some(s))
		}
		holdLengths(t, s, want, false)
	}
}

// Promise 11.4: the nearest sample, wherever it is.
func TestNearest(t *testing.T) {
	s := spline.Samples(nil, square())
	for i, p := range s {
		holdNearest(t, s, p, i)
		holdNearest(t, s, api.V2{X: p.X + 1, Y: p.Y - 1}, i)
	}
	holdNearest(t, s, api.V2{X: 9 * one, Y: 9 * one}, 16)
	holdNearest(t, s, api.V2{X: -most, Y: -most}, 0)
	holdNearest(t, s, api.V2{X: most, Y: 4 * one}, 12)
	holdNearest(t, whole(5, 5), api.V2{X: -most, Y: most}, 0)
	holdNearest(t, whole(5, 5, 5, 4), api.V2{}, 1)
	holdNearest(t, make([]api.V2, 70000), api.V2{X: 1}, 0)
	holdNearest(t, changed(make([]api.V2, 70000), 69999, api.V2{X: 1}), api.V2{X: 1}, 69999)
	d := draw(7)
	for range 20000 {
		s := d.places(d.IntN(30))
		p := d.places(1)[0]
		holdNearest(t, s, p, nearest(s, p))
		for i := range s {
			s[i] = api.V2{X: p.X / 2, Y: p.Y / 2}
			s[i].X += d.number(3)
			s[i].Y += d.number(3)
		}
		holdNearest(t, s, p, nearest(s, p))
	}
}

// Promise 11.4: of samples equally near the first one.
func TestNearestFirst(t *testing.T) {
	holdNearest(t, whole(9, 9, 3, 4, -3, 4, 5, 0, 0, -5, 3, 4), api.V2{}, 1)
	holdNearest(t, whole(0, 5, 3, 4, 0, 5), api.V2{}, 0)
	holdNearest(t, whole(1, 1, 1, 1, 1, 1), whole(1, 1)[0], 0)
	holdNearest(t, square(), api.V2{X: 4 * one, Y: 4 * one}, 0)
	holdNearest(t, square(), api.V2{X: 4*one + 1, Y: 4 * one}, 1)
	holdNearest(t, square(), api.V2{X: 4 * one, Y: 4*one + 1}, 2)
	holdNearest(t, square(), api.V2{X: 4*one + 1, Y: 4*one + 1}, 2)
	holdNearest(t, square(), api.V2{X: 4*one - 1, Y: 4*one + 1}, 3)
	holdNearest(t, parts(-most, -most, most, most, most, -most, -most, most), api.V2{}, 0)
}

// Promise 11.4: exact squares, which neither a length that is rounded down nor a rounded product can tell apart, nor 64 bits hold.
func TestNearestExact(t *testing.T) {
	holdNearest(t, parts(most, 1, most, 0), api.V2{}, 1)
	holdNearest(t, parts(most, 1, most, 0, most, 1), api.V2{X: -most}, 1)
	holdNearest(t, parts(0, most, 1, most, 0, most), api.V2{X: 1, Y: -most}, 1)
	holdNearest(t, parts(-most, -most, 1-most, -most), api.V2{X: most, Y: most}, 1)
	holdNearest(t, parts(-most, -most, -most, 1-most), api.V2{X: most, Y: most}, 1)
	// Squares of a part and less than 1: as numbers all of them would be 0.
	holdNearest(t, parts(3, 3, 2, 2, 1, 1, 0, 1, 0, 0), api.V2{}, 4)
	holdNearest(t, parts(40000, 0, 0, 30000, 20000, 0), api.V2{}, 2)
	// 2^32 and 2^33 parts: their squares' lowest 64 bits are 0.
	holdNearest(t, parts(1<<33, 0, 0, 1<<32, 1<<34, 0), api.V2{}, 1)
	holdNearest(t, parts(1<<40, 0, 5, 5, 0, 1<<36), api.V2{}, 1)
	// Squares of 3 and 4 parts and of 5: the sum counts, and not the greater coordinate, nor the sum of both.
	holdNearest(t, parts(5, 0, 3, 3, 4, 2), api.V2{}, 1)
	holdNearest(t, parts(3, 3, 0, 5, 4, 0), api.V2{}, 2)
}

// Promise 11.4: -1 without samples.
func TestNearestNone(t *testing.T) {
	for _, p := range parts(0, 0, one, one, most, most, -most, -most, greatest, least) {
		holdNearest(t, nil, p, -1)
		holdNearest(t, []api.V2{}, p, -1)
	}
}

// Promise 11.4: -1 beyond the bounds, of the place and of each sample, and an answer at the bounds.
func TestNearestBeyond(t *testing.T) {
	for _, n := range beyond() {
		for _, p := range []api.V2{{X: n}, {Y: n}, {X: n, Y: n}, {X: n, Y: most}, {X: most, Y: n}} {
			holdNearest(t, square(), p, -1)
			holdNearest(t, []api.V2{p}, p, -1)
			holdNearest(t, nil, p, -1)
		}
	}
	for _, count := range []int{1, 2, 3, 20, 600} {
		s := slices.Repeat(square(), count)[:count]
		spoilt(s[:min(count, 50)], func(wrong []api.V2) {
			holdNearest(t, append(wrong, s[len(wrong):]...), api.V2{}, -1)
			holdNearest(t, append(slices.Clone(s[len(wrong):]), wrong...), s[0], -1)
		})
	}
	for _, p := range parts(most, most, most, -most, -most, most, -most, -most, most, 0, 0, -most) {
		holdNearest(t, square(), p, nearest(square(), p))
		for place := range 4 {
			holdNearest(t, changed(square(), place, p), p, place)
		}
	}
}

// Promise 11.5: each segment begins at its point, and ends at the next one.
func TestBegins(t *testing.T) {
	d := draw(8)
	for range 3000 {
		l := d.line()
		for i, p := range l {
			holdAt(t, l, i, 0, p, false)
			holdAt(t, l, i-len(l), 0, p, false)
			holdAt(t, l, i+len(l), 0, p, false)
			holdAt(t, l, i-1, one, p, false)
		}
		s := spline.Samples(nil, l)
		for i, p := range l {
			if s[8*i] != p {
				t.Fatalf("sample %d of %v is %v", 8*i, l, s[8*i])
			}
		}
	}
}

// Rule R1: every call returns, whatever it is given.
func TestTotal(t *testing.T) {
	lists := [][]api.V2{nil, {}, parts(least, least), parts(least, greatest, greatest, least), parts(least, least, greatest, greatest, least, greatest), make([]api.V2, 64), make([]api.V2, 1000)}
	for _, l := range lists {
		spline.Right(l)
		for _, m := range []*fx.M{nil, {}} {
			spline.Samples(m, l)
			spline.Lengths(m, l)
			for _, n := range []api.Fx{least, -1, 0, 1, greatest} {
				for _, i := range []int{math.MinInt, -1, 0, 1, math.MaxInt} {
					spline.At(m, l, i, n)
				}
				spline.Nearest(l, api.V2{X: n, Y: n})
			}
		}
	}
}

// Rule R4: places are not changed, nor what lies behind them, and nothing is kept of them.
func TestArgumentsKept(t *testing.T) {
	all := append(square(), whole(1, 2, 3, 4)...)
	store := slices.Clone(all)
	l := store[:4]
	for range 2 {
		holdRight(t, l, api.OK)
		holdAt(t, l, 0, half, api.V2{X: 4 * one, Y: -one}, false)
		spline.Samples(nil, l)
		holdLengths(t, l, []api.Fx{0, 8 * one, 16 * one, 24 * one, 32 * one}, false)
		holdNearest(t, l, api.V2{X: 9 * one}, 1)
		holdNearest(t, l, api.V2{X: most + 1}, -1)
	}
	if !slices.Equal(store, all) {
		t.Fatalf("places are now %v", store)
	}
	l[1].X = 9 * one
	holdAt(t, l, 1, 0, api.V2{X: 9 * one}, false)
	holdLengths(t, l[:2], []api.Fx{0, 9 * one, 18 * one}, false)
}

// Rule R4: results are new memory each time.
func TestResultsNew(t *testing.T) {
	l := square()
	s := spline.Samples(nil, l)
	far := spline.Lengths(nil, s)
	keptS, keptFar := slices.Clone(s), slices.Clone(far)
	again, farAgain := spline.Samples(nil, l), spline.Lengths(nil, s)
	for i := range again {
		again[i] = api.V2{X: -1, Y: -1}
	}
	for i := range farAgain {
		farAgain[i] = -1
	}
	if !slices.Equal(l, square()) || !slices.Equal(s, keptS) || !slices.Equal(far, keptFar) {
		t.Fatal("an earlier result, or an argument, is changed")
	}
	none := spline.Lengths(nil, nil)
	none[0] = 7
	holdLengths(t, nil, []api.Fx{0}, false)
}
