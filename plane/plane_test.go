package plane_test

import (
	"math"
	"math/big"
	"math/rand/v2"
	"testing"

	"chicane/api"
	"chicane/plane"
)

const (
	one      = api.One
	most     = api.MaxExtent
	greatest = api.Fx(math.MaxInt64)
	least    = api.Fx(math.MinInt64)
)

// parts makes a place of parts.
func parts(x, y api.Fx) api.V2 { return api.V2{X: x, Y: y} }

// whole makes a place of integers.
func whole(x, y api.Fx) api.V2 { return parts(x*one, y*one) }

// gap is the exact way from one place to another, by another reckoning than the package's own.
type gap struct{ x, y *big.Int }

func from(a, b api.V2) gap {
	less := func(c, d api.Fx) *big.Int { return new(big.Int).Sub(big.NewInt(int64(d)), big.NewInt(int64(c))) }
	return gap{x: less(a.X, b.X), y: less(a.Y, b.Y)}
}

// cross is the signed area that two ways span.
func (g gap) cross(h gap) *big.Int {
	n := new(big.Int).Mul(g.x, h.y)
	return n.Sub(n, new(big.Int).Mul(g.y, h.x))
}

// dot is the scalar product of two ways.
func (g gap) dot(h gap) *big.Int {
	n := new(big.Int).Mul(g.x, h.x)
	return n.Add(n, new(big.Int).Mul(g.y, h.y))
}

// signed is the signed area of three places.
func signed(a, b, p api.V2) *big.Int { return from(a, b).cross(from(a, p)) }

// crossing reckons Crosses, by the chapter's conditions.
func crossing(a, b, p, q api.V2) (uint32, bool) {
	s, t := signed(a, b, p), signed(a, b, q)
	if s.Sign() > 0 || t.Sign() != 1 || signed(p, q, a).Sign() < 0 || signed(p, q, b).Sign() != -1 {
		return 0, false
	}
	part := new(big.Int).Lsh(new(big.Int).Neg(s), 32)
	return uint32(part.Quo(part, t.Sub(t, s)).Uint64()), true
}

// holds tells whether a place is on a stretch.
func holds(a, b, p api.V2) bool {
	return signed(a, b, p).Sign() == 0 && from(p, a).dot(from(p, b)).Sign() <= 0
}

// meeting reckons Meets: by where the lines cross, and by the ends where they do not cross at one point.
func meeting(a, b, p, q api.V2) bool {
	u, v, w := from(a, b), from(p, q), from(a, p)
	span := u.cross(v)
	if span.Sign() == 0 {
		return holds(a, b, p) || holds(a, b, q) || holds(p, q, a) || holds(p, q, b)
	}
	share := func(n *big.Int) bool {
		r := new(big.Rat).SetFrac(n, span)
		return r.Sign() >= 0 && r.Cmp(big.NewRat(1, 1)) <= 0
	}
	return share(w.cross(v)) && share(w.cross(u))
}

// behind reckons Beyond: the foot by its share of the stretch, the quotient rounded up by what is left.
func behind(a, b, p api.V2) api.Fx {
	size := signed(a, b, p)
	if size.Sign() >= 0 {
		return 0
	}
	u := from(a, b)
	square := u.dot(u)
	if share := u.dot(from(a, p)); share.Sign() < 0 || share.Cmp(square) > 0 {
		return 0
	}
	far, rest := new(big.Int).QuoRem(size.Neg(size), new(big.Int).Sqrt(square), new(big.Int))
	if rest.Sign() > 0 {
		far.Add(far, big.NewInt(1))
	}
	return api.Fx(far.Int64())
}

func holdSide(t *testing.T, a, b, p api.V2, want int) {
	t.Helper()
	if got := plane.Side(a, b, p); got != want {
		t.Errorf("Side(%v, %v, %v) = %d, not %d", a, b, p, got, want)
	}
}

func holdCrosses(t *testing.T, a, b, p, q api.V2, want uint32, ok bool) {
	t.Helper()
	if got, fine := plane.Crosses(a, b, p, q); got != want || fine != ok {
		t.Errorf("Crosses(%v, %v, %v, %v) = %d, %v, not %d, %v", a, b, p, q, got, fine, want, ok)
	}
}

// holdMeets holds Meets for both stretches, in either order and either way.
func holdMeets(t *testing.T, a, b, p, q api.V2, want bool) {
	t.Helper()
	for _, l := range [][4]api.V2{{a, b, p, q}, {b, a, p, q}, {a, b, q, p}, {b, a, q, p}, {p, q, a, b}, {q, p, a, b}, {p, q, b, a}, {q, p, b, a}} {
		if got := plane.Meets(l[0], l[1], l[2], l[3]); got != want {
			t.Errorf("Meets(%v, %v, %v, %v) = %v, not %v", l[0], l[1], l[2], l[3], got, want)
		}
	}
}

func holdBeyond(t *testing.T, a, b, p api.V2, want api.Fx) {
	t.Helper()
	if got := plane.Beyond(a, b, p); got != want {
		t.Errorf("Beyond(%v, %v, %v) = %d, not %d", a, b, p, got, want)
	}
}

// grid is all places of a square, of so many places a side, which lie so far apart.
func grid(side int, apart api.Fx) []api.V2 {
	l := []api.V2{}
	for x := range side {
		for y := range side {
			l = append(l, parts(api.Fx(x)*apart-apart, api.Fx(y)*apart-apart))
		}
	}
	return l
}

// drawn makes places within the bounds by a fixed rule.
type drawn struct{ *rand.Rand }

func draw(seed uint64) drawn { return drawn{rand.New(rand.NewPCG(7, seed))} }

// coordinate is at most 2^48 parts off; here and there it is as far off as may be.
func (d drawn) coordinate(shorter int) api.Fx {
	if d.IntN(16) == 0 {
		return []api.Fx{0, 1, -1, most, -most, most - 1, 1 - most}[d.IntN(7)]
	}
	return api.Fx(int64(d.Uint64()) >> (15 + shorter))
}

func (d drawn) place(shorter int) api.V2 {
	return parts(d.coordinate(shorter), d.coordinate(shorter))
}

// about is a place on the line through two places or a few parts off it: between them, at them, or outside of them.
func (d drawn) about(a, b api.V2) api.V2 {
	t := []float64{-0.25, 0, 0.5, 1, 1.25, d.Float64()}[d.IntN(6)]
	on := func(c, e api.Fx) api.Fx {
		n := c + api.Fx(math.Round(float64(e-c)*t)) + api.Fx(d.IntN(5)-2)
		return max(-most, min(most, n))
	}
	return parts(on(a.X, b.X), on(a.Y, b.Y))
}

// triples calls with all three places of a grid, and with places that are drawn: at random, and about a line.
func triples(call func(a, b, p api.V2)) {
	for _, l := range [][]api.V2{grid(5, 1), grid(3, one), grid(3, most)} {
		for _, a := range l {
			for _, b := range l {
				for _, p := range l {
					call(a, b, p)
				}
			}
		}
	}
	d := draw(1)
	for range 20000 {
		s := d.IntN(48)
		a, b := d.place(s), d.place(s)
		call(a, b, d.place(s))
		call(a, b, d.about(a, b))
	}
}

// fours calls with all four places of a grid, and with places that are drawn: at random, and about a line.
func fours(call func(a, b, p, q api.V2)) {
	for _, l := range [][]api.V2{grid(4, 1), grid(3, one), grid(3, most)} {
		for _, a := range l {
			for _, b := range l {
				for _, p := range l {
					for _, q := range l {
						call(a, b, p, q)
					}
				}
			}
		}
	}
	d := draw(2)
	for range 20000 {
		s := d.IntN(48)
		a, b := d.place(s), d.place(s)
		p := d.about(a, b)
		call(a, b, d.place(s), d.place(s))
		call(a, b, p, d.place(s))
		call(a, b, d.place(s), p)
		call(a, b, p, d.about(a, b))
	}
}

// Promise 7.1: Side of places beside a line and on it, before and behind its ends too.
func TestSide(t *testing.T) {
	a, b := whole(-2, 0), whole(2, 0)
	holdSide(t, a, b, whole(0, 1), 1)
	holdSide(t, a, b, whole(0, -1), -1)
	holdSide(t, b, a, whole(0, 1), -1)
	holdSide(t, b, a, whole(0, -1), 1)
	holdSide(t, a, b, whole(9, 0), 0)
	holdSide(t, a, b, whole(-9, 0), 0)
	holdSide(t, a, b, a, 0)
	holdSide(t, a, b, b, 0)
	holdSide(t, a, b, parts(9*one, 1), 1)
	holdSide(t, a, b, parts(-9*one, -1), -1)
	holdSide(t, whole(0, -1), whole(0, 1), whole(-1, 5), 1)
	holdSide(t, whole(0, -1), whole(0, 1), whole(1, 5), -1)
	holdSide(t, a, a, whole(1, 1), 0) // there is no line to be beside
	holdSide(t, a, a, a, 0)
	triples(func(a, b, p api.V2) { holdSide(t, a, b, p, signed(a, b, p).Sign()) })
}

// Promise 7.1: Side is exact: one part of an area of more than 2^98 counts, as far off as places may be.
func TestSideExact(t *testing.T) {
	a, b := parts(-most, -most), parts(most, most-1)
	holdSide(t, a, b, parts(1-most, 1-most), 1)
	holdSide(t, a, b, parts(most-1, most-2), -1)
	holdSide(t, b, a, parts(1-most, 1-most), -1)
	holdSide(t, b, a, parts(most-1, most-2), 1)
	holdSide(t, parts(-most, most), parts(most, -most), parts(0, 0), 0)
	holdSide(t, parts(-most, most), parts(most, -most), parts(1, 0), 1)
	holdSide(t, parts(-most, most), parts(most, -most), parts(0, -1), -1)
}

// Promise 7.2: Crosses, the chapter's examples, and the edges of gates and moves.
func TestCrosses(t *testing.T) {
	a, b := whole(-2, 0), whole(2, 0)
	for _, c := range []struct {
		p, q api.V2
		want uint32
		ok   bool
	}{
		{whole(1, -1), whole(1, 1), 1 << 31, true},
		{whole(0, -1), whole(0, 3), 1 << 30, true},
		{whole(0, 3), whole(0, -1), 0, false},
		{whole(0, 1), whole(0, 2), 0, false},
		{whole(0, -2), whole(0, -1), 0, false},
		{whole(0, 0), whole(0, 2), 0, true},   // a move that begins on the gate
		{whole(0, -2), whole(0, 0), 0, false}, // and one that ends on it
		{parts(0, -one), parts(0, 1), 1<<32 - 1, true},
		{parts(0, -1), parts(0, 1<<33-1), 0, true}, // less than a part of it is none, but the gate is crossed
		{parts(0, -1), parts(0, 1<<32-1), 1, true},
		{whole(0, -1), whole(0, 2), 1431655765, true},
		{whole(0, -2), whole(0, 1), 2863311530, true},
		{whole(-2, -1), whole(-2, 1), 1 << 31, true}, // its first end belongs to a gate
		{whole(2, -1), whole(2, 1), 0, false},        // and its second one does not
		{parts(2*one-1, -one), parts(2*one-1, one), 1 << 31, true},
		{parts(-2*one-1, -one), parts(-2*one-1, one), 0, false},
		{whole(3, -1), whole(3, 1), 0, false},
		{whole(-3, -1), whole(-3, 1), 0, false},
		{whole(-3, -1), whole(-1, 1), 1 << 31, true}, // through the first end, aslant
		{whole(1, -1), whole(3, 1), 0, false},        // through the second one
		{whole(-2, 0), whole(-2, 1), 0, true},
		{whole(-2, 0), whole(5, 1), 0, true},
		{whole(2, 0), whole(2, 1), 0, false},
		{whole(2, 0), whole(-5, 1), 0, false},
		{whole(0, 0), whole(1, 0), 0, false}, // along the gate
		{whole(-5, 0), whole(5, 0), 0, false},
		{whole(0, 0), whole(0, 0), 0, false},
		{whole(0, -1), whole(0, -1), 0, false},
		{whole(0, 1), whole(0, 1), 0, false},
	} {
		holdCrosses(t, a, b, c.p, c.q, c.want, c.ok)
	}
	holdCrosses(t, b, a, whole(0, -1), whole(0, 3), 0, false)
	holdCrosses(t, b, a, whole(0, 3), whole(0, -1), 3<<30, true)
	holdCrosses(t, a, a, whole(-2, -1), whole(-2, 1), 0, false) // a gate without a length
	holdCrosses(t, a, a, a, b, 0, false)
	holdCrosses(t, parts(-most, -most), parts(most, most), parts(most, -most), parts(-most, most), 1<<31, true)
	holdCrosses(t, parts(-most, -most), parts(most, most), parts(-most, most), parts(most, -most), 0, false)
	holdCrosses(t, parts(-most, -most), parts(most, most-1), parts(most, -most), parts(1-most, 1-most), 1<<32-1, true)
	fours(func(a, b, p, q api.V2) {
		want, ok := crossing(a, b, p, q)
		holdCrosses(t, a, b, p, q, want, ok)
	})
}

// Promise 7.2: of two gates that share an end, a move through it crosses one.
func TestCrossesOne(t *testing.T) {
	a, b, c := whole(-3, 1), whole(0, 0), whole(3, 2)
	for _, p := range []api.V2{whole(0, -1), whole(-1, -2), whole(2, -3), b} {
		q := parts(-p.X, max(-p.Y, one))
		_, first := plane.Crosses(a, b, p, q)
		_, second := plane.Crosses(b, c, p, q)
		if first || !second {
			t.Errorf("from %v to %v: %v, %v", p, q, first, second)
		}
	}
}

// Promise 7.3: Meets, of stretches that cross, touch, lie on one line, or have no length.
func TestMeets(t *testing.T) {
	a, b := whole(-2, 0), whole(2, 0)
	for _, c := range []struct {
		p, q api.V2
		want bool
	}{
		{whole(2, 0), whole(5, 5), true}, // two ends
		{whole(0, -1), whole(1, 1), true},
		{whole(1, 0), whole(5, 5), true}, // an end on the stretch
		{whole(1, 0), whole(5, 0), true}, // along it
		{whole(2, 0), whole(5, 0), true},
		{whole(-1, 0), whole(1, 0), true},
		{whole(-5, 0), whole(5, 0), true},
		{a, b, true},
		{whole(3, 0), whole(5, 0), false},
		{parts(2*one+1, 0), whole(5, 0), false},
		{whole(-5, 0), parts(-2*one-1, 0), false},
		{whole(0, 1), whole(0, 2), false},
		{whole(0, -2), parts(0, -1), false},
		{whole(0, -2), whole(0, 0), true},
		{whole(-1, 1), whole(1, 1), false}, // beside it
		{parts(-2*one, 1), parts(2*one, 1), false},
		{whole(3, -1), whole(3, 1), false},
		{whole(1, -2), whole(4, 1), false}, // each of their bounds holds some of the other one
		{whole(1, 1), whole(1, 1), false},
		{whole(1, 0), whole(1, 0), true}, // a point
		{a, a, true},
		{b, b, true},
		{whole(3, 0), whole(3, 0), false}, // a point on the line, outside of the stretch
	} {
		holdMeets(t, a, b, c.p, c.q, c.want)
	}
	holdMeets(t, a, a, a, a, true)
	holdMeets(t, a, a, b, b, false)
	holdMeets(t, whole(0, 0), whole(3, 3), whole(1, 1), whole(5, 5), true)
	holdMeets(t, whole(0, 0), whole(3, 3), whole(4, 4), whole(5, 5), false)
	holdMeets(t, whole(0, 0), whole(3, 3), whole(1, 1), whole(1, 1), true)
	holdMeets(t, whole(0, 0), whole(3, 3), parts(one, one+1), parts(one, one+1), false)
	holdMeets(t, whole(0, 0), whole(0, 3), whole(0, 4), whole(0, 5), false)
	holdMeets(t, parts(-most, -most), parts(most, most), parts(most, -most), parts(-most, most), true)
	holdMeets(t, parts(-most, -most), parts(most, most-1), parts(1-most, 1-most), parts(-most, most), false)
	holdMeets(t, parts(-most, -most), parts(most, most-1), parts(most-1, most-2), parts(-most, most), true)
	fours(func(a, b, p, q api.V2) {
		if got, want := plane.Meets(a, b, p, q), meeting(a, b, p, q); got != want {
			t.Errorf("Meets(%v, %v, %v, %v) = %v, not %v", a, b, p, q, got, want)
		}
	})
}

// Promise 7.3: Beyond, on either side of a stretch, beside its ends, and past them.
func TestBeyond(t *testing.T) {
	a, b := whole(-2, 0), whole(2, 0)
	holdBeyond(t, a, b, whole(2, -3), 3*one)
	holdBeyond(t, a, b, whole(3, -3), 0)
	holdBeyond(t, a, b, whole(-2, -3), 3*one)
	holdBeyond(t, a, b, whole(-3, -3), 0)
	holdBeyond(t, a, b, parts(2*one+1, -3*one), 0)
	holdBeyond(t, a, b, parts(-2*one-1, -3*one), 0)
	holdBeyond(t, a, b, whole(0, 1), 0)
	holdBeyond(t, a, b, whole(0, 0), 0)
	holdBeyond(t, a, b, parts(0, -1), 1)
	holdBeyond(t, b, a, whole(0, 1), one)
	holdBeyond(t, b, a, whole(0, -1), 0)
	holdBeyond(t, a, b, a, 0)
	holdBeyond(t, a, b, b, 0)
	holdBeyond(t, whole(0, 0), whole(3, 4), whole(4, -3), 5*one)
	holdBeyond(t, whole(0, 0), whole(3, 4), whole(7, 1), 5*one)
	holdBeyond(t, whole(0, 0), whole(3, 4), parts(7*one+1, one), 0)
	holdBeyond(t, whole(0, 0), whole(3, 4), parts(4*one-1, -3*one), 0)
	holdBeyond(t, a, a, whole(0, -3), 0) // there is no stretch
	holdBeyond(t, a, a, a, 0)
	triples(func(a, b, p api.V2) { holdBeyond(t, a, b, p, behind(a, b, p)) })
}

// Promise 7.3: the length is rounded down, and then the quotient is rounded up, however little is left of it.
func TestBeyondRounding(t *testing.T) {
	zero := api.V2{}
	holdBeyond(t, zero, parts(2, 2), parts(4, 0), 4)  // 8 by 2, not by the root of 8
	holdBeyond(t, zero, parts(1, 1), parts(1, 0), 1)  // 1 by 1
	holdBeyond(t, zero, parts(2, 1), parts(1, 0), 1)  // 1 by 2
	holdBeyond(t, zero, parts(2, 1), parts(1, -2), 3) // 5 by 2
	holdBeyond(t, zero, parts(2, 1), parts(1, -1), 2) // 3 by 2
	holdBeyond(t, zero, parts(2, 1), parts(2, -1), 2) // 4 by 2
	holdBeyond(t, zero, parts(3, 0), parts(1, -1), 1)
	holdBeyond(t, zero, parts(8, 1), parts(1, -8), 9)                                    // 65 by 8
	holdBeyond(t, zero, parts(4, 1), parts(1, -1), 2)                                    // 5 by 4
	holdBeyond(t, zero, parts(most, 1), parts(1, 0), 1)                                  // 1 by 2^48
	holdBeyond(t, zero, parts(most, 1), parts(1, -most), most+1)                         // a part of 2^48 is left
	holdBeyond(t, parts(-most, most), parts(most, most), parts(0, -most), 2*most)        // as far as may be, along an axis
	holdBeyond(t, parts(most, -most), parts(most, 1-most), parts(-most, 1-most), 0)      // the same to the left
	holdBeyond(t, parts(-most, -most), parts(-most, 1-most), parts(most, -most), 2*most) // and to the right
}

// outer are coordinates just beyond the bounds, and far beyond them.
func outer() []api.Fx {
	return []api.Fx{most + 1, -most - 1, 1 << 50, -1 << 50, greatest, -greatest, least}
}

// moved calls with each place moved off the bounds, by one coordinate at a time.
func moved(places []api.V2, call func(l []api.V2)) {
	for k, p := range places {
		for _, c := range outer() {
			for _, off := range []api.V2{parts(c, p.Y), parts(p.X, c)} {
				l := append([]api.V2{}, places...)
				l[k] = off
				call(l)
			}
		}
	}
}

// Promise 7.4: beyond the bounds there is nothing, by whichever coordinate of whichever place.
func TestBounds(t *testing.T) {
	d := draw(3)
	for range 2000 {
		s := d.IntN(48)
		a, b := d.place(s), d.place(s)
		moved([]api.V2{a, b, d.place(s), d.about(a, b)}, func(l []api.V2) {
			holdCrosses(t, l[0], l[1], l[2], l[3], 0, false)
			holdMeets(t, l[0], l[1], l[2], l[3], false)
		})
		moved([]api.V2{a, b, d.about(a, b)}, func(l []api.V2) {
			holdSide(t, l[0], l[1], l[2], 0)
			holdBeyond(t, l[0], l[1], l[2], 0)
		})
	}
	every := parts(least, greatest)
	holdSide(t, every, every, every, 0)
	holdCrosses(t, every, every, every, every, 0, false)
	holdMeets(t, every, every, every, every, false)
	holdBeyond(t, every, every, every, 0)
}

// Promise 7.4: at the bounds there is an answer, and one part beyond them there is none.
func TestBoundsEdge(t *testing.T) {
	left, right := parts(-most, 0), parts(most, 0)
	holdSide(t, left, right, parts(0, most), 1)
	holdSide(t, left, right, parts(0, -most), -1)
	holdSide(t, left, right, parts(0, most+1), 0)
	holdSide(t, left, right, parts(0, -most-1), 0)
	holdSide(t, parts(-most-1, 0), right, parts(0, most), 0)
	holdSide(t, left, parts(most+1, 0), parts(0, most), 0)
	holdCrosses(t, left, right, parts(0, -most), parts(0, most), 1<<31, true)
	holdCrosses(t, left, right, parts(0, -most-1), parts(0, most), 0, false)
	holdCrosses(t, left, right, parts(0, -most), parts(0, most+1), 0, false)
	holdCrosses(t, parts(-most-1, 0), right, parts(0, -most), parts(0, most), 0, false)
	holdCrosses(t, left, parts(most+1, 0), parts(0, -most), parts(0, most), 0, false)
	holdMeets(t, left, right, parts(0, -most), parts(0, most), true)
	holdMeets(t, left, right, parts(0, -most-1), parts(0, most), false)
	holdMeets(t, left, right, parts(0, 0), parts(0, most+1), false)
	holdMeets(t, left, parts(most+1, 0), left, right, false)
	holdBeyond(t, left, right, parts(most, -most), most)
	holdBeyond(t, left, right, parts(most, -most-1), 0)
	holdBeyond(t, parts(-most-1, 0), right, parts(0, -most), 0)
	holdBeyond(t, left, parts(most+1, 0), parts(0, -most), 0)
}

// holdPath holds that the moves of a straight path cross a gate ahead once if the whole path does, and not at all if it does not.
func holdPath(t *testing.T, a, b api.V2, path []api.V2) {
	t.Helper()
	times := 0
	for k := range path[1:] {
		if _, ok := plane.Crosses(a, b, path[k], path[k+1]); ok {
			times++
		}
	}
	_, whole := plane.Crosses(a, b, path[0], path[len(path)-1])
	if times > 1 || whole != (times == 1) {
		t.Errorf("the gate from %v to %v is crossed %d times on the path %v; by the whole of it: %v", a, b, times, path, whole)
	}
}

// divisions calls with a path of so many equal strides, divided after every choice of them: as one move, as many, and as all between; then with moves that stay in their place.
func divisions(start, stride api.V2, strides int, call func(path []api.V2)) {
	at := func(k int) api.V2 { return parts(start.X+api.Fx(k)*stride.X, start.Y+api.Fx(k)*stride.Y) }
	for choice := range 1 << (strides - 1) {
		path, stays := []api.V2{at(0)}, []api.V2{at(0), at(0)}
		for k := 1; k <= strides; k++ {
			if k == strides || choice>>(k-1)&1 == 1 {
				path, stays = append(path, at(k)), append(stays, at(k), at(k))
			}
		}
		call(path)
		call(stays)
	}
}

// Promise 7.5: straight paths through a gate, its ends, and beside it, in all directions, divided in all ways.
func TestPath(t *testing.T) {
	gates := [][2]api.V2{{parts(-2, 0), parts(2, 0)}, {parts(2, 0), parts(-2, 0)}, {parts(0, -2), parts(0, 2)}, {parts(-2, -1), parts(2, 1)}, {parts(1, 2), parts(-1, -2)}, {parts(0, 0), parts(0, 0)}}
	for _, gate := range gates {
		for _, start := range grid(7, 1) {
			for _, stride := range grid(5, 1) {
				off := parts(start.X-2, start.Y-2)
				divisions(off, parts(stride.X-1, stride.Y-1), 4, func(path []api.V2) { holdPath(t, gate[0], gate[1], path) })
			}
		}
	}
}

// Promise 7.5: long straight paths, through gates that are drawn.
func TestPathDrawn(t *testing.T) {
	d := draw(4)
	crossed := 0
	for range 3000 {
		s := 3 + d.IntN(40)
		a, b, stride := d.place(s), d.place(s), d.place(s+3)
		a, b = parts(a.X/8, a.Y/8), parts(b.X/8, b.Y/8) // so that the whole path is within the bounds
		stride = parts(stride.X/8, stride.Y/8)
		middle := d.about(a, b)
		start := parts(middle.X-3*stride.X, middle.Y-3*stride.Y) // so that a division lies about the gate
		divisions(start, stride, 6, func(path []api.V2) {
			holdPath(t, a, b, path)
			if _, ok := plane.Crosses(a, b, path[0], path[len(path)-1]); ok {
				crossed++
			}
		})
	}
	if crossed == 0 {
		t.Error("no path crosses a gate")
	}
}
