package vec_test

import (
	"math"
	"math/rand/v2"
	"testing"

	"chicane/api"
	"chicane/fx"
	"chicane/root"
	"chicane/vec"
)

const (
	one      = api.One
	half     = api.One / 2
	greatest = api.Fx(math.MaxInt64)
	least    = api.Fx(math.MinInt64)
)

// parts makes a vector of parts.
func parts(x, y, z api.Fx) api.V3 { return api.V3{X: x, Y: y, Z: z} }

// whole makes a vector of integers.
func whole(x, y, z api.Fx) api.V3 { return parts(x*one, y*one, z*one) }

// vectors are all vectors of some edges: of the range, of 1, and of a part.
func vectors() []api.V3 {
	edges := []api.Fx{0, 1, half + 1, -one, 3 << 45, greatest, least}
	l := []api.V3{}
	for _, x := range edges {
		for _, y := range edges {
			for _, z := range edges {
				l = append(l, parts(x, y, z))
			}
		}
	}
	return l
}

// draw makes vectors by a fixed rule: sides of every length, those of one vector about as long as each other.
func draw(seed uint64) func() api.V3 {
	r := rand.New(rand.NewPCG(8, seed))
	return func() api.V3 {
		shift := r.IntN(63)
		side := func() api.Fx { return api.Fx(int64(r.Uint64()) >> min(63, shift+r.IntN(4))) }
		return parts(side(), side(), side())
	}
}

// pairs calls with each of the vectors of edges and each other, and with vectors that are drawn.
func pairs(call func(a, b api.V3)) {
	edges := vectors()
	for _, a := range edges {
		for _, b := range edges {
			call(a, b)
		}
	}
	next := draw(1)
	for range 20000 {
		call(next(), next())
	}
}

// singles calls with the vectors of edges, and with vectors that are drawn.
func singles(call func(a api.V3)) {
	for _, a := range vectors() {
		call(a)
	}
	next := draw(2)
	for range 20000 {
		call(next())
	}
}

// direction is what Unit tells.
type direction struct {
	v  api.V3
	ok bool
}

// hold makes a call with an M that is new, with one that has noted something already, and with none: all tell the same, and Over is noted and stays.
func hold[T comparable](t *testing.T, want T, over bool, call func(m *fx.M) T) {
	t.Helper()
	fresh, old := &fx.M{}, &fx.M{Over: true}
	if got := call(fresh); got != want || fresh.Over != over {
		t.Fatalf("%v and Over %v, not %v and %v", got, fresh.Over, want, over)
	}
	if got := call(old); got != want || !old.Over {
		t.Fatalf("%v and Over %v where Over was true, not %v", got, old.Over, want)
	}
	if got := call(nil); got != want {
		t.Fatalf("%v for nil, not %v", got, want)
	}
}

// holdSame holds a call against steps of the layers below, which make it up.
func holdSame[T comparable](t *testing.T, call, steps func(m *fx.M) T) {
	t.Helper()
	m := &fx.M{}
	want := steps(m)
	hold(t, want, m.Over, call)
}

type (
	binary func(m *fx.M, a, b api.V3) api.V3
	scaled func(m *fx.M, a api.V3, s api.Fx) api.V3
)

func holdBinary(t *testing.T, call binary, a, b, want api.V3, over bool) {
	t.Helper()
	hold(t, want, over, func(m *fx.M) api.V3 { return call(m, a, b) })
}

func holdScaled(t *testing.T, call scaled, a api.V3, s api.Fx, want api.V3, over bool) {
	t.Helper()
	hold(t, want, over, func(m *fx.M) api.V3 { return call(m, a, s) })
}

func holdNeg(t *testing.T, a, want api.V3, over bool) {
	t.Helper()
	hold(t, want, over, func(m *fx.M) api.V3 { return vec.Neg(m, a) })
}

func holdDot(t *testing.T, a, b api.V3, want api.Fx, over bool) {
	t.Helper()
	hold(t, want, over, func(m *fx.M) api.Fx { return vec.Dot(m, a, b) })
}

func holdLen(t *testing.T, a api.V3, want api.Fx, over bool) {
	t.Helper()
	hold(t, want, over, func(m *fx.M) api.Fx { return vec.Len(m, a) })
}

func unit(m *fx.M, a api.V3) direction {
	v, ok := vec.Unit(m, a)
	return direction{v, ok}
}

func holdUnit(t *testing.T, a api.V3, want direction, over bool) {
	t.Helper()
	hold(t, want, over, func(m *fx.M) direction { return unit(m, a) })
}

// Promise 5.1: Add, Sub and Neg, component by component.
func TestSums(t *testing.T) {
	holdBinary(t, vec.Add, whole(1, 2, 3), whole(4, 5, 6), whole(5, 7, 9), false)
	holdBinary(t, vec.Sub, whole(1, 2, 3), whole(4, 6, 8), whole(-3, -4, -5), false)
	holdNeg(t, whole(1, -2, 0), whole(-1, 2, 0), false)
	holdBinary(t, vec.Add, parts(1, -2, 3), parts(0, 2, 1), parts(1, 0, 4), false)
	holdBinary(t, vec.Sub, parts(1, -2, 3), parts(0, 2, 1), parts(1, -4, 2), false)
	pairs(func(a, b api.V3) {
		holdSame(t, func(m *fx.M) api.V3 { return vec.Add(m, a, b) }, func(m *fx.M) api.V3 {
			return parts(m.Add(a.X, b.X), m.Add(a.Y, b.Y), m.Add(a.Z, b.Z))
		})
		holdSame(t, func(m *fx.M) api.V3 { return vec.Sub(m, a, b) }, func(m *fx.M) api.V3 {
			return parts(m.Sub(a.X, b.X), m.Sub(a.Y, b.Y), m.Sub(a.Z, b.Z))
		})
	})
	singles(func(a api.V3) {
		holdSame(t, func(m *fx.M) api.V3 { return vec.Neg(m, a) }, func(m *fx.M) api.V3 {
			return parts(m.Neg(a.X), m.Neg(a.Y), m.Neg(a.Z))
		})
	})
}

// Promise 5.1: sums, differences and opposites at the ends of the range: one component that does not fit is noted, and changes no other one.
func TestSumsBounds(t *testing.T) {
	holdBinary(t, vec.Add, parts(greatest, 1, 2), parts(0, 3, 4), parts(greatest, 4, 6), false)
	holdBinary(t, vec.Add, parts(greatest, 1, 2), parts(1, 3, 4), parts(greatest, 4, 6), true)
	holdBinary(t, vec.Add, parts(1, least, 2), parts(3, -1, 4), parts(4, least, 6), true)
	holdBinary(t, vec.Add, parts(1, 2, greatest), parts(3, 4, greatest), parts(4, 6, greatest), true)
	holdBinary(t, vec.Sub, parts(0, 1, 2), parts(greatest, 3, 4), parts(-greatest, -2, -2), false)
	holdBinary(t, vec.Sub, parts(0, 1, 2), parts(least, 3, 4), parts(greatest, -2, -2), true)
	holdBinary(t, vec.Sub, parts(1, -2, 2), parts(3, greatest, 4), parts(-2, least, -2), true)
	holdBinary(t, vec.Sub, parts(1, 2, least), parts(3, 4, least), parts(-2, -2, 0), false)
	holdNeg(t, parts(greatest, -greatest, 1), parts(-greatest, greatest, -1), false)
	holdNeg(t, parts(least, 1, 0), parts(greatest, -1, 0), true)
	holdNeg(t, parts(0, least, 1), parts(0, greatest, -1), true)
	holdNeg(t, parts(1, 0, least), parts(-1, 0, greatest), true)
}

// Promise 5.1: Scale and Over.
func TestScale(t *testing.T) {
	holdScaled(t, vec.Scale, whole(1, 2, 3), -2*one, whole(-2, -4, -6), false)
	holdScaled(t, vec.Over, whole(2, -4, 7), -2*one, parts(-one, 2*one, -7*half), false)
	holdScaled(t, vec.Scale, whole(1, 2, 3), 0, api.V3{}, false)
	holdScaled(t, vec.Scale, parts(3, -5, 7), half, parts(2, -2, 4), false) // halves go to the even part
	holdScaled(t, vec.Over, parts(3, -5, 7), 2*one, parts(2, -2, 4), false) // so do those of quotients
	holdScaled(t, vec.Over, whole(1, 2, -1), 3*one, parts(1431655765, 2863311531, -1431655765), false)
	holdScaled(t, vec.Over, api.V3{}, one, api.V3{}, false)
	next := draw(3)
	pairs(func(a, b api.V3) {
		for _, s := range []api.Fx{b.X, next().X} {
			holdSame(t, func(m *fx.M) api.V3 { return vec.Scale(m, a, s) }, func(m *fx.M) api.V3 {
				return parts(m.Mul(a.X, s), m.Mul(a.Y, s), m.Mul(a.Z, s))
			})
			holdSame(t, func(m *fx.M) api.V3 { return vec.Over(m, a, s) }, func(m *fx.M) api.V3 {
				return parts(m.Div(a.X, s), m.Div(a.Y, s), m.Div(a.Z, s))
			})
		}
	})
}

// Promise 5.1: products and quotients that do not fit, and a divisor of 0.
func TestScaleBounds(t *testing.T) {
	holdScaled(t, vec.Scale, parts(1<<62, 1, -1), 2*one, parts(greatest, 2, -2), true)
	holdScaled(t, vec.Scale, parts(1, -1<<62, -1), 2*one, parts(2, least, -2), false)
	holdScaled(t, vec.Scale, parts(1, -1<<62, -1), 3*one, parts(3, least, -3), true)
	holdScaled(t, vec.Scale, parts(1, -1, least), -one, parts(-1, 1, greatest), true)
	holdScaled(t, vec.Over, parts(1<<62, 1, -1), half, parts(greatest, 2, -2), true)
	holdScaled(t, vec.Over, parts(1, least, -1), -one, parts(-1, greatest, 1), true)
	holdScaled(t, vec.Over, parts(1, -1, least), half, parts(2, -2, least), true)
	holdScaled(t, vec.Over, parts(5, 0, -5), 0, parts(greatest, 0, least), true)
	holdScaled(t, vec.Over, api.V3{}, 0, api.V3{}, true)
}

// Promise 5.2: Dot.
func TestDot(t *testing.T) {
	holdDot(t, whole(1, 2, 3), whole(-4, 5, 6), 24*one, false)
	holdDot(t, whole(1, 0, 0), whole(0, 1, 1), 0, false)
	holdDot(t, whole(2, -3, 6), whole(2, -3, 6), 49*one, false)
	holdDot(t, parts(1, 1, 1), parts(half, half, half), 0, false) // each product is rounded, not their sum
	holdDot(t, parts(3, 3, 3), parts(half, half, half), 6, false)
	pairs(func(a, b api.V3) {
		holdSame(t, func(m *fx.M) api.Fx { return vec.Dot(m, a, b) }, func(m *fx.M) api.Fx {
			return m.Add(m.Add(m.Mul(a.X, b.X), m.Mul(a.Y, b.Y)), m.Mul(a.Z, b.Z))
		})
	})
}

// Promise 5.2: products are added in their order: what does not fit on the way is noted, even where the whole would fit.
func TestDotBounds(t *testing.T) {
	ones := whole(1, 1, 1)
	holdDot(t, parts(greatest, -5, 5), ones, greatest, false)
	holdDot(t, parts(greatest, 5, -5), ones, greatest-5, true)
	holdDot(t, parts(-5, 5, greatest), ones, greatest, false)
	holdDot(t, parts(5, greatest, -5), ones, greatest-5, true)
	holdDot(t, parts(5, -5, greatest), ones, greatest, false)
	holdDot(t, parts(least, -5, 5), ones, least+5, true)
	holdDot(t, parts(least, 5, -5), ones, least, false)
	holdDot(t, parts(least, 0, greatest), ones, -1, false)
	holdDot(t, parts(greatest, 0, 0), whole(2, 0, 0), greatest, true)
	holdDot(t, parts(greatest, greatest, 0), whole(2, -2, 0), -1, true) // each product gives way by itself
	holdDot(t, parts(least, least, least), parts(least, least, least), greatest, true)
}

// Promise 5.2: Cross.
func TestCross(t *testing.T) {
	holdBinary(t, vec.Cross, whole(1, 2, 3), whole(-4, 5, 6), whole(-3, -18, 13), false)
	x, y, z := whole(1, 0, 0), whole(0, 1, 0), whole(0, 0, 1)
	holdBinary(t, vec.Cross, x, y, z, false)
	holdBinary(t, vec.Cross, y, z, x, false)
	holdBinary(t, vec.Cross, z, x, y, false)
	holdBinary(t, vec.Cross, y, x, whole(0, 0, -1), false)
	holdBinary(t, vec.Cross, whole(2, 3, 4), whole(4, 6, 8), api.V3{}, false)
	holdBinary(t, vec.Cross, api.V3{}, whole(4, 6, 8), api.V3{}, false)
	// Each product is rounded, not their difference: 3/2 and -1/2 are 2 and 0.
	holdBinary(t, vec.Cross, parts(0, 3, 1), parts(0, -half, half), parts(2, 0, 0), false)
	holdBinary(t, vec.Cross, parts(1, 0, 3), parts(half, 0, -half), parts(0, 2, 0), false)
	holdBinary(t, vec.Cross, parts(3, 1, 0), parts(-half, half, 0), parts(0, 0, 2), false)
	pairs(func(a, b api.V3) {
		holdSame(t, func(m *fx.M) api.V3 { return vec.Cross(m, a, b) }, func(m *fx.M) api.V3 {
			return parts(
				m.Sub(m.Mul(a.Y, b.Z), m.Mul(a.Z, b.Y)),
				m.Sub(m.Mul(a.Z, b.X), m.Mul(a.X, b.Z)),
				m.Sub(m.Mul(a.X, b.Y), m.Mul(a.Y, b.X)),
			)
		})
	})
}

// Promise 5.2: products and differences that do not fit.
func TestCrossBounds(t *testing.T) {
	holdBinary(t, vec.Cross, parts(greatest, 1, 0), whole(0, 1, 0), parts(0, 0, greatest), false)
	holdBinary(t, vec.Cross, parts(greatest, 1, 0), whole(-1, 1, 0), parts(0, 0, greatest), true)
	holdBinary(t, vec.Cross, parts(greatest, 1, 0), whole(0, 2, 0), parts(0, 0, greatest), true)
	holdBinary(t, vec.Cross, parts(greatest, greatest, 0), whole(2, 2, 0), api.V3{}, true) // what does not fit is taken from its like
	holdBinary(t, vec.Cross, parts(0, least, 0), whole(1, 0, 0), parts(0, 0, greatest), true)
	holdBinary(t, vec.Cross, parts(0, least, 0), whole(0, 0, 1), parts(least, 0, 0), false)
	holdBinary(t, vec.Cross, parts(0, least, 1), whole(0, 1, 1), parts(least, 0, 0), true)
}

// Promise 5.3: Len.
func TestLen(t *testing.T) {
	holdLen(t, whole(2, 3, -6), 7*one, false)
	holdLen(t, api.V3{}, 0, false)
	holdLen(t, parts(2, -3, 6), 7, false) // by exact squares, which are all 0 if they are rounded
	holdLen(t, parts(1, 1, 1), 1, false)  // rounded down
	holdLen(t, whole(0, 0, -5), 5*one, false)
	holdLen(t, parts(0, greatest, one-1), greatest, false)
	holdLen(t, parts(one, 0, greatest), greatest, true)
	holdLen(t, parts(least, 0, 0), greatest, true)
	holdLen(t, parts(least, least, least), greatest, true)
	singles(func(a api.V3) {
		holdSame(t, func(m *fx.M) api.Fx { return vec.Len(m, a) }, func(m *fx.M) api.Fx {
			return root.Len3(m, a.X, a.Y, a.Z)
		})
	})
}

// Promise 5.3: Unit; there is no direction of the length 0, and nothing is noted then.
func TestUnit(t *testing.T) {
	m := &fx.M{}
	sevenths := parts(m.Ratio(2, 7), m.Ratio(-3, 7), m.Ratio(6, 7))
	holdUnit(t, whole(20, -30, 60), direction{sevenths, true}, false)
	holdUnit(t, parts(2, -3, 6), direction{sevenths, true}, false)
	holdUnit(t, whole(0, 0, -8), direction{whole(0, 0, -1), true}, false)
	holdUnit(t, parts(0, 1, 0), direction{whole(0, 1, 0), true}, false)
	holdUnit(t, parts(1, -1, 1), direction{whole(1, -1, 1), true}, false) // the length is rounded down to 1 part
	holdUnit(t, api.V3{}, direction{}, false)
	holdUnit(t, parts(least, 0, 0), direction{whole(-1, 0, 0), true}, true)
	holdUnit(t, parts(greatest, least, 1<<32), direction{parts(one, -one, 2), true}, true)
	singles(func(a api.V3) {
		holdSame(t, func(m *fx.M) direction { return unit(m, a) }, func(m *fx.M) direction {
			x, y, z, ok := root.Unit3(m, a.X, a.Y, a.Z)
			return direction{parts(x, y, z), ok}
		})
	})
}

// Promise 5.3: Clamp.
func TestClamp(t *testing.T) {
	for _, c := range []struct {
		a    api.V3
		most api.Fx
		want api.V3
	}{
		{whole(9, -9, 1), 5 * one, whole(5, -5, 1)},
		{whole(-9, 1, 9), 5 * one, whole(-5, 1, 5)},
		{whole(5, -5, 0), 5 * one, whole(5, -5, 0)},
		{parts(6, -6, 5), 5, parts(5, -5, 5)},
		{parts(1, -1, 0), 0, api.V3{}},
		{parts(least, greatest, -greatest), greatest, parts(-greatest, greatest, -greatest)},
		{parts(least, greatest, least+1), 0, api.V3{}},
		{parts(greatest, 7, least), api.MaxSpeed, parts(api.MaxSpeed, 7, -api.MaxSpeed)},
	} {
		if got := vec.Clamp(c.a, c.most); got != c.want {
			t.Errorf("Clamp(%v, %d) = %v, not %v", c.a, c.most, got, c.want)
		}
	}
	next := draw(4)
	singles(func(a api.V3) {
		for _, most := range []api.Fx{0, 1, half, one, greatest, max(next().X, 0)} {
			want := parts(fx.Clamp(a.X, -most, most), fx.Clamp(a.Y, -most, most), fx.Clamp(a.Z, -most, most))
			if got := vec.Clamp(a, most); got != want {
				t.Fatalf("Clamp(%v, %d) = %v, not %v", a, most, got, want)
			}
		}
	})
}

// Rule R1: Clamp returns for a most that is negative too, the same each time.
func TestClampNegative(t *testing.T) {
	for _, a := range vectors() {
		for _, most := range []api.Fx{-1, -one, -greatest, least} {
			if vec.Clamp(a, most) != vec.Clamp(a, most) {
				t.Fatalf("Clamp(%v, %d) differs from call to call", a, most)
			}
		}
	}
}

// Promise 5.3: Flat.
func TestFlat(t *testing.T) {
	singles(func(a api.V3) {
		if got := vec.Flat(a); got != (api.V2{X: a.X, Y: a.Y}) {
			t.Fatalf("Flat(%v) = %v", a, got)
		}
	})
	if got := vec.Flat(whole(1, 2, 3)); got != (api.V2{X: one, Y: 2 * one}) {
		t.Errorf("Flat of (1, 2, 3) = %v", got)
	}
}

// Promise 5.3: Along.
func TestAlong(t *testing.T) {
	holdBinary(t, vec.Along, whole(3, 4, 5), whole(0, 0, 1), whole(3, 4, 0), false)
	holdBinary(t, vec.Along, whole(3, 4, 5), whole(0, -1, 0), whole(3, 0, 5), false)
	holdBinary(t, vec.Along, whole(3, 4, 5), api.V3{}, whole(3, 4, 5), false)
	holdBinary(t, vec.Along, api.V3{}, whole(1, 0, 0), api.V3{}, false)
	holdBinary(t, vec.Along, whole(1, 2, 3), whole(2, 0, 1), whole(-9, 2, -2), false)     // a direction that is not 1 long is taken as it is
	holdBinary(t, vec.Along, parts(3, 0, 7), parts(half, 0, half), parts(0, 0, 4), false) // the dot is 2 and 4 parts, the half of it 3
	holdBinary(t, vec.Along, parts(greatest, 1, 2), whole(1, 0, 0), parts(0, 1, 2), false)
	holdBinary(t, vec.Along, parts(greatest, 0, 1), whole(-2, 0, 0), parts(0, 0, 1), true)
	holdBinary(t, vec.Along, parts(least, 0, 1), whole(0, 0, -2), parts(least, 0, -3), false)
	holdBinary(t, vec.Along, parts(least, -1, 0), whole(-1, 1, 0), parts(-2, -greatest, 0), true)
	pairs(func(a, n api.V3) {
		holdSame(t, func(m *fx.M) api.V3 { return vec.Along(m, a, n) }, func(m *fx.M) api.V3 {
			dot := m.Add(m.Add(m.Mul(a.X, n.X), m.Mul(a.Y, n.Y)), m.Mul(a.Z, n.Z))
			return parts(m.Sub(a.X, m.Mul(n.X, dot)), m.Sub(a.Y, m.Mul(n.Y, dot)), m.Sub(a.Z, m.Mul(n.Z, dot)))
		})
	})
}

// Promise 5.3: what Along tells is perpendicular to a unit vector, up to 4 parts for the roundings and 4 for each unit of the length.
func TestAlongUnit(t *testing.T) {
	next := draw(5)
	for range 20000 {
		a, b := vec.Clamp(next(), api.MaxSpeed), next()
		m := &fx.M{}
		n, ok := vec.Unit(m, b)
		if !ok || m.Over || vec.Len(m, b) < one {
			continue // shorter ones are rounded too far to be 1 long
		}
		off, most := vec.Dot(m, vec.Along(m, a, n), n), 4+4*api.Fx(fx.Floor(vec.Len(m, a))+1)
		if off < -most || off > most || m.Over {
			t.Fatalf("Along(%v, %v) is off by %d", a, n, off)
		}
	}
}

// Promise 5.4: exchanging the arguments of Cross changes the sign of the result: exactly, if it fits, as products do not hang on their order; otherwise up to a part.
func TestCrossExchanged(t *testing.T) {
	pairs(func(a, b api.V3) {
		m := &fx.M{}
		ahead, back := vec.Cross(m, a, b), vec.Cross(m, b, a)
		sum := vec.Add(m, ahead, back)
		if vec.Clamp(sum, 1) != sum || sum != (api.V3{}) && !m.Over {
			t.Fatalf("Cross(%v, %v) is %v, and exchanged %v", a, b, ahead, back)
		}
	})
}

// Promise 5.4: Cross is perpendicular to both arguments, up to 2 parts and one for each unit of their sides: each component of the result is off by at most 1 part.
func TestCrossPerpendicular(t *testing.T) {
	next := draw(6)
	for range 20000 {
		a, b := vec.Clamp(next(), api.MaxSpeed), vec.Clamp(next(), api.MaxSpeed)
		m := &fx.M{}
		cross := vec.Cross(m, a, b)
		for _, v := range []api.V3{a, b} {
			sides := m.Add(m.Add(m.Abs(v.X), m.Abs(v.Y)), m.Abs(v.Z))
			off, most := vec.Dot(m, cross, v), 2+api.Fx(fx.Floor(sides))
			if off < -most || off > most || m.Over {
				t.Fatalf("Cross(%v, %v) is off by %d", a, b, off)
			}
		}
	}
}
