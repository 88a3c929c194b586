package quat_test

import (
	"math"
	"math/rand/v2"
	"testing"

	"chicane/api"
	"chicane/fx"
	"chicane/quat"
	"chicane/root"
	"chicane/trig"
	"chicane/vec"
)

const (
	one      = api.One
	half     = api.One / 2
	greatest = api.Fx(math.MaxInt64)
	least    = api.Fx(math.MinInt64)
)

var identity = api.Quat{W: one}

// parts makes an attitude of parts.
func parts(w, x, y, z api.Fx) api.Quat { return api.Quat{W: w, X: x, Y: y, Z: z} }

// whole makes an attitude of integers.
func whole(w, x, y, z api.Fx) api.Quat { return parts(w*one, x*one, y*one, z*one) }

// vector makes a vector of parts.
func vector(x, y, z api.Fx) api.V3 { return api.V3{X: x, Y: y, Z: z} }

// units makes a vector of integers.
func units(x, y, z api.Fx) api.V3 { return vector(x*one, y*one, z*one) }

// matrix makes a matrix of its rows.
func matrix(a, b, c api.V3) api.Mat { return api.Mat{A: a, B: b, C: c} }

// level is the matrix that turns nothing.
func level() api.Mat { return matrix(units(1, 0, 0), units(0, 1, 0), units(0, 0, 1)) }

// attitudes are all attitudes of some edges: of the range, and of 1.
func attitudes() []api.Quat {
	edges := []api.Fx{0, half + 1, -one, greatest, least}
	l := []api.Quat{}
	for _, w := range edges {
		for _, x := range edges {
			for _, y := range edges {
				for _, z := range edges {
					l = append(l, parts(w, x, y, z))
				}
			}
		}
	}
	return l
}

// drawn makes things by a fixed rule, of sides of every length.
type drawn struct{ *rand.Rand }

func draw(seed uint64) drawn { return drawn{rand.New(rand.NewPCG(9, seed))} }

// side is a number that is about so many digits shorter than the longest ones; here and there it is an edge.
func (d drawn) side(shorter int) api.Fx {
	if d.IntN(16) == 0 {
		return []api.Fx{0, 1, -1, half, one, -one, greatest, least}[d.IntN(8)]
	}
	return api.Fx(int64(d.Uint64()) >> min(63, shorter+d.IntN(4)))
}

func (d drawn) attitude() api.Quat {
	s := d.IntN(63)
	return parts(d.side(s), d.side(s), d.side(s), d.side(s))
}

func (d drawn) vector() api.V3 {
	s := d.IntN(63)
	return vector(d.side(s), d.side(s), d.side(s))
}

func (d drawn) matrix() api.Mat {
	s := d.IntN(63)
	row := func() api.V3 { return vector(d.side(s), d.side(s), d.side(s)) }
	return matrix(row(), row(), row())
}

// orientation is an attitude of length 1: shorter ones than 1 are left out ahead of Unit, as they are rounded too far.
func (d drawn) orientation() api.Quat {
	side := func() api.Fx { return api.Fx(int64(d.Uint64()) >> 28) }
	for {
		q := parts(side(), side(), side(), side())
		if root.Len4(nil, q.W, q.X, q.Y, q.Z) >= one {
			return quat.Unit(nil, q)
		}
	}
}

// short is a vector of every length up to 2^15.
func (d drawn) short() api.V3 {
	s := 16 + d.IntN(32)
	side := func() api.Fx { return api.Fx(int64(d.Uint64()) >> s) }
	return vector(side(), side(), side())
}

// singles calls with the attitudes of edges, and with attitudes that are drawn.
func singles(call func(q api.Quat)) {
	for _, q := range attitudes() {
		call(q)
	}
	d := draw(1)
	for range 20000 {
		call(d.attitude())
	}
}

// hold makes a call with an M that is new, with one that has noted something already, and with none: all tell the same, and Over is noted and stays.
func hold[T comparable](t *testing.T, want T, over bool, call func(m *fx.M) T) {
	t.Helper()
	fresh, old := &fx.M{}, &fx.M{Over: true}
	if got := call(fresh); got != want || fresh.Over != over {
		t.Fatalf("%v and Over %v, not %v and %v", got, fresh.Over, want, over)
	}
	if got := call(old); got != want || !old.Over {
		t.Fatalf("%v and Over %v where Over was true, not %v", got, old.Over, want)
	}
	if got := call(nil); got != want {
		t.Fatalf("%v for nil, not %v", got, want)
	}
}

// holdSame holds a call against steps of the layers below, which make it up.
func holdSame[T comparable](t *testing.T, call, steps func(m *fx.M) T) {
	t.Helper()
	m := &fx.M{}
	want := steps(m)
	hold(t, want, m.Over, call)
}

func holdMul(t *testing.T, p, q, want api.Quat, over bool) {
	t.Helper()
	hold(t, want, over, func(m *fx.M) api.Quat { return quat.Mul(m, p, q) })
}

func holdUnit(t *testing.T, q, want api.Quat, over bool) {
	t.Helper()
	hold(t, want, over, func(m *fx.M) api.Quat { return quat.Unit(m, q) })
}

func holdMatrix(t *testing.T, q api.Quat, want api.Mat, over bool) {
	t.Helper()
	hold(t, want, over, func(m *fx.M) api.Mat { return quat.Matrix(m, q) })
}

func holdApply(t *testing.T, r api.Mat, v, want api.V3, over bool) {
	t.Helper()
	hold(t, want, over, func(m *fx.M) api.V3 { return quat.Apply(m, r, v) })
}

func holdBack(t *testing.T, r api.Mat, v, want api.V3, over bool) {
	t.Helper()
	hold(t, want, over, func(m *fx.M) api.V3 { return quat.Back(m, r, v) })
}

func holdStep(t *testing.T, q api.Quat, w api.V3, dt api.Fx, want api.Quat, over bool) {
	t.Helper()
	hold(t, want, over, func(m *fx.M) api.Quat { return quat.Step(m, q, w, dt) })
}

// mulSteps is Mul, written out.
func mulSteps(m *fx.M, p, q api.Quat) api.Quat {
	return parts(
		m.Sub(m.Sub(m.Sub(m.Mul(p.W, q.W), m.Mul(p.X, q.X)), m.Mul(p.Y, q.Y)), m.Mul(p.Z, q.Z)),
		m.Sub(m.Add(m.Add(m.Mul(p.W, q.X), m.Mul(p.X, q.W)), m.Mul(p.Y, q.Z)), m.Mul(p.Z, q.Y)),
		m.Add(m.Add(m.Sub(m.Mul(p.W, q.Y), m.Mul(p.X, q.Z)), m.Mul(p.Y, q.W)), m.Mul(p.Z, q.X)),
		m.Add(m.Sub(m.Add(m.Mul(p.W, q.Z), m.Mul(p.X, q.Y)), m.Mul(p.Y, q.X)), m.Mul(p.Z, q.W)),
	)
}

// unitSteps is Unit, written out.
func unitSteps(m *fx.M, q api.Quat) api.Quat {
	n := root.Len4(m, q.W, q.X, q.Y, q.Z)
	if n == 0 {
		return identity
	}
	return parts(m.Div(q.W, n), m.Div(q.X, n), m.Div(q.Y, n), m.Div(q.Z, n))
}

// matrixSteps is Matrix, written out.
func matrixSteps(m *fx.M, q api.Quat) api.Mat {
	xx, yy, zz := m.Mul(q.X, q.X), m.Mul(q.Y, q.Y), m.Mul(q.Z, q.Z)
	xy, xz, yz := m.Mul(q.X, q.Y), m.Mul(q.X, q.Z), m.Mul(q.Y, q.Z)
	wx, wy, wz := m.Mul(q.W, q.X), m.Mul(q.W, q.Y), m.Mul(q.W, q.Z)
	twice := func(n api.Fx) api.Fx { return m.Add(n, n) }
	return matrix(
		vector(m.Sub(one, twice(m.Add(yy, zz))), twice(m.Sub(xy, wz)), twice(m.Add(xz, wy))),
		vector(twice(m.Add(xy, wz)), m.Sub(one, twice(m.Add(xx, zz))), twice(m.Sub(yz, wx))),
		vector(twice(m.Sub(xz, wy)), twice(m.Add(yz, wx)), m.Sub(one, twice(m.Add(xx, yy)))),
	)
}

// stepSteps is Step, written out.
func stepSteps(m *fx.M, q api.Quat, w api.V3, dt api.Fx) api.Quat {
	p := mulSteps(m, q, parts(0, w.X, w.Y, w.Z))
	return unitSteps(m, parts(
		m.Add(q.W, m.Mul(m.Mul(p.W, dt), half)),
		m.Add(q.X, m.Mul(m.Mul(p.X, dt), half)),
		m.Add(q.Y, m.Mul(m.Mul(p.Y, dt), half)),
		m.Add(q.Z, m.Mul(m.Mul(p.Z, dt), half)),
	))
}

// Promise 6.1: Mul of the axes, of integers, and of parts.
func TestMul(t *testing.T) {
	i, j, k := whole(0, 1, 0, 0), whole(0, 0, 1, 0), whole(0, 0, 0, 1)
	holdMul(t, i, j, k, false)
	holdMul(t, j, k, i, false)
	holdMul(t, k, i, j, false)
	holdMul(t, j, i, whole(0, 0, 0, -1), false)
	holdMul(t, k, j, whole(0, -1, 0, 0), false)
	holdMul(t, i, k, whole(0, 0, -1, 0), false)
	for _, q := range []api.Quat{i, j, k} {
		holdMul(t, q, q, whole(-1, 0, 0, 0), false)
	}
	p, q := whole(1, 2, 3, 4), whole(5, 6, 7, 8)
	holdMul(t, p, q, whole(-60, 12, 30, 24), false)
	holdMul(t, q, p, whole(-60, 20, 14, 32), false)
	holdMul(t, p, identity, p, false)
	holdMul(t, identity, q, q, false)
	holdMul(t, p, api.Quat{}, api.Quat{}, false)
	holdMul(t, p, whole(1, -2, -3, -4), whole(30, 0, 0, 0), false)
	// Each product is rounded, not their sum: 1/2 and 3/2 are 0 and 2.
	holdMul(t, parts(1, 1, 1, 1), parts(half, half, half, half), api.Quat{}, false)
	holdMul(t, parts(3, 3, 3, 3), parts(half, half, half, half), parts(-4, 4, 4, 4), false)
}

// Promise 6.1: Mul, step by step, over the edges and what is drawn.
func TestMulSteps(t *testing.T) {
	check := func(p, q api.Quat) {
		holdSame(t, func(m *fx.M) api.Quat { return quat.Mul(m, p, q) }, func(m *fx.M) api.Quat { return mulSteps(m, p, q) })
	}
	edges := attitudes()
	for _, p := range edges {
		for _, q := range edges {
			check(p, q)
		}
	}
	d := draw(2)
	for range 50000 {
		check(d.attitude(), d.attitude())
	}
}

// Promise 6.1: products are combined from left to right: what does not fit on the way is noted, even where the whole would fit; what is taken away is never turned round by itself.
func TestMulBounds(t *testing.T) {
	ones := whole(1, 1, 1, 1)
	holdMul(t, parts(greatest, 5, -5, 0), ones, parts(greatest, greatest-5, greatest-10, greatest), true)
	holdMul(t, parts(greatest, -5, 5, 0), ones, parts(greatest-5, greatest, greatest, greatest-10), true)
	holdMul(t, parts(-1, least, 0, 0), identity, parts(-1, least, 0, 0), false)
	holdMul(t, parts(-2, least, 0, 0), parts(half, one, 0, 0), parts(greatest, -2-1<<62, 0, 0), false) // -1 less the least number fits
	holdMul(t, parts(0, least, 0, 0), whole(0, 1, 0, 0), parts(greatest, 0, 0, 0), true)
	holdMul(t, parts(-1, least, 0, 0), whole(0, 1, 0, 0), parts(greatest, -1, 0, 0), true)
	holdMul(t, parts(-2, 0, least, 0), parts(half, 0, one, 0), parts(greatest, 0, -2-1<<62, 0), false)
	holdMul(t, parts(-2, 0, 0, least), parts(half, 0, 0, one), parts(greatest, 0, 0, -2-1<<62), false)
	holdMul(t, parts(0, -1, 0, least), whole(1, 0, 1, 0), parts(0, greatest, 0, least), true)
	holdMul(t, parts(-1, least, 0, 0), whole(0, 0, 1, 1), parts(0, 0, greatest, least), true)
	holdMul(t, parts(-1, 0, least, 0), whole(0, 1, 0, 1), parts(0, least, 0, greatest), true)
	holdMul(t, parts(greatest, 0, 0, 0), whole(1, 0, 0, 0), parts(greatest, 0, 0, 0), false)
	holdMul(t, parts(greatest, 0, 0, 0), whole(2, 0, 0, 0), parts(greatest, 0, 0, 0), true)
	holdMul(t, parts(0, greatest, 0, 0), whole(0, 2, 0, 0), parts(-greatest, 0, 0, 0), true)
	holdMul(t, parts(least, 0, 0, 0), parts(least, least, least, least), parts(greatest, greatest, greatest, greatest), true)
}

// Promise 6.2: Unit; the length 0 alone tells the identity, and nothing is noted then.
func TestUnit(t *testing.T) {
	m := &fx.M{}
	holdUnit(t, whole(2, 0, 0, 0), identity, false)
	holdUnit(t, api.Quat{}, identity, false)
	holdUnit(t, whole(0, 0, -8, 0), whole(0, 0, -1, 0), false)
	holdUnit(t, whole(-3, 0, 0, 0), whole(-1, 0, 0, 0), false)
	holdUnit(t, whole(1, 1, 1, 1), parts(half, half, half, half), false)
	holdUnit(t, whole(1, -1, 1, -1), parts(half, -half, half, -half), false)
	holdUnit(t, whole(20, -40, 50, 60), parts(m.Ratio(2, 9), m.Ratio(-4, 9), m.Ratio(5, 9), m.Ratio(6, 9)), false)
	holdUnit(t, parts(2, -4, 5, 6), parts(m.Ratio(2, 9), m.Ratio(-4, 9), m.Ratio(5, 9), m.Ratio(6, 9)), false)
	holdUnit(t, parts(0, 0, 0, 1), whole(0, 0, 0, 1), false)
	holdUnit(t, parts(1, -1, 1, 0), whole(1, -1, 1, 0), false) // the length is rounded down to 1 part
	holdUnit(t, parts(greatest, 0, 0, 0), identity, false)
	holdUnit(t, parts(0, least, 0, 0), whole(0, -1, 0, 0), true) // its length is the greatest number
	holdUnit(t, parts(least, least, least, least), whole(-1, -1, -1, -1), true)
	holdUnit(t, parts(greatest, least, 1<<32, 0), parts(one, -one, 2, 0), true)
	singles(func(q api.Quat) {
		holdSame(t, func(m *fx.M) api.Quat { return quat.Unit(m, q) }, func(m *fx.M) api.Quat { return unitSteps(m, q) })
	})
}

// Promise 6.3: Matrix of half turns, of a turn that changes the axes round, of integers, and of parts.
func TestMatrix(t *testing.T) {
	holdMatrix(t, identity, level(), false)
	holdMatrix(t, api.Quat{}, level(), false)
	holdMatrix(t, whole(7, 0, 0, 0), level(), false) // an attitude is taken as it is
	holdMatrix(t, whole(0, 1, 0, 0), matrix(units(1, 0, 0), units(0, -1, 0), units(0, 0, -1)), false)
	holdMatrix(t, whole(0, 0, 1, 0), matrix(units(-1, 0, 0), units(0, 1, 0), units(0, 0, -1)), false)
	holdMatrix(t, whole(0, 0, 0, 1), matrix(units(-1, 0, 0), units(0, -1, 0), units(0, 0, 1)), false)
	round := matrix(units(0, 0, 1), units(1, 0, 0), units(0, 1, 0))
	holdMatrix(t, parts(half, half, half, half), round, false)
	holdMatrix(t, parts(-half, -half, -half, -half), round, false)
	holdMatrix(t, whole(1, 2, 3, 4), matrix(units(-49, 4, 22), units(20, -39, 20), units(10, 28, -25)), false)
	// Products are rounded ahead of their sum, and the sum is doubled: 1/2 is 0, and 3/2 is 2.
	holdMatrix(t, parts(half, 1, 1, 1), level(), false)
	holdMatrix(t, parts(half, 3, 0, 0), matrix(units(1, 0, 0), vector(0, one, -4), vector(0, 4, one)), false)
	singles(func(q api.Quat) {
		holdSame(t, func(m *fx.M) api.Mat { return quat.Matrix(m, q) }, func(m *fx.M) api.Mat { return matrixSteps(m, q) })
	})
}

// Promise 6.3: Matrix where products, sums, or what is doubled do not fit.
func TestMatrixBounds(t *testing.T) {
	low := one - greatest
	holdMatrix(t, parts(0, greatest, 0, 0), matrix(units(1, 0, 0), vector(0, low, 0), vector(0, 0, low)), true)
	holdMatrix(t, parts(greatest, 0, 0, 0), level(), false) // its square is in no product
	// 2^15 squared is 2^30, and twice that is beyond; a part less fits.
	side := api.Fx(1 << 47)
	holdMatrix(t, parts(0, side, 0, 0), matrix(units(1, 0, 0), vector(0, low, 0), vector(0, 0, low)), true)
	square := api.Fx(1<<62 - 1<<16)
	near := one - 2*square
	holdMatrix(t, parts(0, side-1, 0, 0), matrix(units(1, 0, 0), vector(0, near, 0), vector(0, 0, near)), false)
	// A part is taken from the opposite bound's product.
	holdMatrix(t, parts(least, one, 0, 0), matrix(units(1, 0, 0), vector(0, -one, greatest), vector(0, least, -one)), true)
}

// Promise 6.3: Apply and Back, by rows and by columns.
func TestApplyBack(t *testing.T) {
	r := matrix(units(1, 2, 3), units(4, 5, 6), units(-7, 8, 9))
	holdApply(t, r, units(1, 0, 0), units(1, 4, -7), false)
	holdApply(t, r, units(0, 1, 0), units(2, 5, 8), false)
	holdApply(t, r, units(0, 0, 1), units(3, 6, 9), false)
	holdApply(t, r, units(1, -2, 3), units(6, 12, 4), false)
	holdBack(t, r, units(1, 0, 0), units(1, 2, 3), false)
	holdBack(t, r, units(0, 1, 0), units(4, 5, 6), false)
	holdBack(t, r, units(0, 0, 1), units(-7, 8, 9), false)
	holdBack(t, r, units(1, -2, 3), units(-28, 16, 18), false)
	upright := quat.Matrix(nil, whole(0, 0, 0, 1))
	holdApply(t, upright, units(1, 2, 3), units(-1, -2, 3), false)
	holdBack(t, upright, units(-1, -2, 3), units(1, 2, 3), false)
	holdApply(t, api.Mat{}, units(1, 2, 3), api.V3{}, false)
	holdBack(t, r, api.V3{}, api.V3{}, false)
	// Each product is rounded, not their sum.
	holdApply(t, matrix(vector(1, 1, 1), vector(3, 3, 3), vector(3, 1, -3)), vector(half, half, half), vector(0, 6, 0), false)
	holdBack(t, matrix(vector(1, 3, 3), vector(1, 3, 1), vector(1, 3, -3)), vector(half, half, half), vector(0, 6, 0), false)
	d := draw(3)
	for range 50000 {
		r, v := d.matrix(), d.vector()
		holdSame(t, func(m *fx.M) api.V3 { return quat.Apply(m, r, v) }, func(m *fx.M) api.V3 {
			return vector(vec.Dot(m, r.A, v), vec.Dot(m, r.B, v), vec.Dot(m, r.C, v))
		})
		holdSame(t, func(m *fx.M) api.V3 { return quat.Back(m, r, v) }, func(m *fx.M) api.V3 {
			x, y, z := vector(r.A.X, r.B.X, r.C.X), vector(r.A.Y, r.B.Y, r.C.Y), vector(r.A.Z, r.B.Z, r.C.Z)
			return vector(vec.Dot(m, x, v), vec.Dot(m, y, v), vec.Dot(m, z, v))
		})
	}
}

// Promise 6.3: sums and products of Apply and Back that do not fit; the order counts.
func TestApplyBackBounds(t *testing.T) {
	ones := units(1, 1, 1)
	rows := matrix(vector(greatest, -5, 5), vector(5, 7, 9), vector(0, 0, least))
	holdApply(t, rows, ones, vector(greatest, 21, least), false)
	rows.A = vector(greatest, 5, -5)
	holdApply(t, rows, ones, vector(greatest-5, 21, least), true)
	columns := matrix(vector(greatest, 5, 0), vector(-5, 7, 0), vector(5, 9, least))
	holdBack(t, columns, ones, vector(greatest, 21, least), false)
	columns.B.X, columns.C.X = 5, -5
	holdBack(t, columns, ones, vector(greatest-5, 21, least), true)
	holdApply(t, level(), vector(greatest, least, -1), vector(greatest, least, -1), false)
	holdBack(t, level(), vector(greatest, least, -1), vector(greatest, least, -1), false)
	holdApply(t, matrix(units(2, 0, 0), units(0, 1, 0), units(0, 0, -1)), vector(greatest, 1, least), vector(greatest, 1, greatest), true)
	holdBack(t, matrix(units(2, 0, 0), units(0, 1, 0), units(0, 0, -1)), vector(least, 1, 2), vector(least, 1, -2), true)
}

// Promise 6.4: Step.
func TestStep(t *testing.T) {
	m := &fx.M{}
	still := parts(half, half, half, half)
	holdStep(t, still, api.V3{}, one, still, false)
	holdStep(t, still, units(1, 2, 3), 0, still, false)
	holdStep(t, whole(0, 0, 5, 0), api.V3{}, one, whole(0, 0, 1, 0), false) // made 1 long
	holdStep(t, api.Quat{}, units(1, 2, 3), one, identity, false)
	holdStep(t, identity, units(2, 0, 0), one, unitSteps(m, whole(1, 1, 0, 0)), false)
	holdStep(t, identity, units(0, -2, 0), one, unitSteps(m, whole(1, 0, -1, 0)), false)
	holdStep(t, identity, units(0, 0, 8), one/4, unitSteps(m, whole(1, 0, 0, 1)), false)
	holdStep(t, identity, units(0, 0, 8), -one/4, unitSteps(m, whole(1, 0, 0, -1)), false)
	holdStep(t, identity, units(8, 16, 0), one, parts(m.Ratio(1, 9), m.Ratio(4, 9), m.Ratio(8, 9), 0), false)
	// The speed is about the body's own axes: it stands to the right of the attitude.
	holdStep(t, whole(0, 1, 0, 0), units(0, 2, 0), one, unitSteps(m, whole(0, 1, 0, 1)), false)
	holdStep(t, whole(1, 2, 3, 4), units(5, 6, 7), 2*one, unitSteps(m, whole(-55, 4, 15, 8)), false)
	// First dt, and then 1/2, each rounded: 13/5 parts are 3, and 3/2 are 2; 1 part and 2 are 2, and then 1.
	holdStep(t, identity, vector(2, 0, 0), m.Ratio(13, 10), parts(one, 2, 0, 0), false)
	holdStep(t, identity, vector(0, 1, 0), 2*one, parts(one, 0, 1, 0), false)
	holdStep(t, identity, vector(0, 0, 1), one, identity, false)
	d := draw(4)
	for range 50000 {
		for _, q := range []api.Quat{d.attitude(), d.orientation()} {
			w, dt := d.vector(), d.side(d.IntN(63))
			holdSame(t, func(m *fx.M) api.Quat { return quat.Step(m, q, w, dt) }, func(m *fx.M) api.Quat { return stepSteps(m, q, w, dt) })
		}
	}
}

// Promise 6.4: Step where a product, a sum, or the length does not fit.
func TestStepBounds(t *testing.T) {
	m := &fx.M{}
	holdStep(t, identity, vector(greatest, 0, 0), one, unitSteps(m, parts(one, 1<<62, 0, 0)), false)
	holdStep(t, identity, vector(greatest, 0, 0), 2*one, unitSteps(m, parts(one, 1<<62, 0, 0)), true)
	holdStep(t, identity, vector(0, least, 0), one, unitSteps(m, parts(one, 0, -1<<62, 0)), false)
	holdStep(t, identity, vector(0, least, 0), -one, unitSteps(m, parts(one, 0, 1<<62, 0)), true)
	holdStep(t, parts(greatest, 0, 0, 0), api.V3{}, one, identity, false)
	holdStep(t, parts(greatest, 0, 0, 0), units(0, 0, 1), one, unitSteps(m, parts(greatest, 0, 0, 1<<62)), true)    // the length does not fit
	holdStep(t, parts(greatest, 1, 0, 0), units(-2, 0, 0), one, unitSteps(m, parts(greatest, 1-1<<62, 0, 0)), true) // nor do two of the steps ahead of it
	holdStep(t, parts(least, 0, 0, 0), api.V3{}, least, whole(-1, 0, 0, 0), true)
}

// Promise 6.4: About takes half of the angle, rounded down.
func TestAbout(t *testing.T) {
	eighth := api.Fx(3037000500)
	for _, c := range []struct {
		t    api.Turn
		want api.Quat
	}{
		{0, identity},
		{1, identity},
		{1 << 30, parts(eighth, 0, 0, eighth)},
		{1<<30 + 1, parts(eighth, 0, 0, eighth)},
		{1 << 31, whole(0, 0, 0, 1)},
		{1<<31 + 1, whole(0, 0, 0, 1)},
		{3 << 30, parts(-eighth, 0, 0, eighth)},
		{1<<31 - 1, parts(trig.Cos(1<<30-1), 0, 0, trig.Sin(1<<30-1))},
		{1<<32 - 1, parts(trig.Cos(1<<31-1), 0, 0, trig.Sin(1<<31-1))},
		{1<<32 - 2, parts(trig.Cos(1<<31-1), 0, 0, trig.Sin(1<<31-1))},
	} {
		hold(t, c.want, false, func(m *fx.M) api.Quat { return quat.About(m, c.t) })
	}
	d := draw(5)
	for range 2000 {
		turn := api.Turn(d.Uint32())
		want := parts(trig.Cos(turn/2), 0, 0, trig.Sin(turn/2))
		hold(t, want, false, func(m *fx.M) api.Quat { return quat.About(m, turn) })
	}
}

// off tells how far two numbers lie from each other.
func off(a, b api.Fx) api.Fx { return max(a-b, b-a) }

// few is how many parts a turned vector may be off: 3 for the roundings behind the matrix, and 16 for each unit of its length: 8 as an orientation is 1 long up to 2 parts, 6 for the roundings of the matrix, and 2 spare ones.
func few(v api.V3) api.Fx { return 3 + 16*api.Fx(fx.Floor(vec.Len(nil, v))+1) }

// Promise 6.5: orientations that are 1 long keep lengths, up to a few parts.
func TestLengthsKept(t *testing.T) {
	d := draw(6)
	for range 50000 {
		q, v := d.orientation(), d.short()
		m := &fx.M{}
		r := quat.Matrix(m, q)
		long := vec.Len(m, v)
		for _, w := range []api.V3{quat.Apply(m, r, v), quat.Back(m, r, v)} {
			if got := vec.Len(m, w); off(got, long) > few(v) || m.Over {
				t.Fatalf("%v turns %v to %v, which is %d long, not %d", q, v, w, got, long)
			}
		}
	}
}

// Promise 6.5: Back leads back from where Apply led to, and Apply from where Back led to.
func TestBackReverses(t *testing.T) {
	d := draw(7)
	for range 50000 {
		q, v := d.orientation(), d.short()
		m := &fx.M{}
		r := quat.Matrix(m, q)
		for _, w := range []api.V3{quat.Back(m, r, quat.Apply(m, r, v)), quat.Apply(m, r, quat.Back(m, r, v))} {
			if most := 2 * few(v); off(w.X, v.X) > most || off(w.Y, v.Y) > most || off(w.Z, v.Z) > most || m.Over {
				t.Fatalf("%v leads %v there and back to %v", q, v, w)
			}
		}
	}
}

// Promise 6.5 and the chapter's example: a quarter turn leads from X to Y, up to a few parts; others lead from X to their own directions. These are the angles whose half is an entry of the table of sines: only there is what About tells 1 long.
func TestAboutTurns(t *testing.T) {
	for k := range api.Turn(128) {
		m, turn := &fx.M{}, k<<25
		r := quat.Matrix(m, quat.About(m, turn))
		got, want := quat.Apply(m, r, units(1, 0, 0)), vector(trig.Cos(turn), trig.Sin(turn), 0)
		if off(got.X, want.X) > 4 || off(got.Y, want.Y) > 4 || got.Z != 0 || m.Over {
			t.Errorf("%d / 128 of a turn lead to %v, not %v", k, got, want)
		}
	}
}
