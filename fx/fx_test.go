package fx_test

import (
	"math"
	"math/big"
	"math/rand/v2"
	"testing"

	"chicane/api"
	"chicane/fx"
)

const (
	one      = api.One
	half     = api.One / 2
	greatest = api.Fx(math.MaxInt64)
	least    = api.Fx(math.MinInt64)
)

// answer is what a call tells, and whether the result did not fit.
type answer struct {
	n    api.Fx
	over bool
}

// numbers are numbers at the edges of the range, of 1, of its half and of a part, and some of every length.
func numbers() []api.Fx {
	l := []api.Fx{0, 1, 2, 3, 4, 5, 7, 10, 99, half / 2, half - 1, half, half + 1, one - 1, one, one + 1}
	l = append(l, one+half, 5*half, 2*one-1, 2*one, 2*one+1, 3*one, 7*one, 1<<47, 1<<47+1, 3037000499976050, 1<<61+1)
	l = append(l, 1<<62-1, 1<<62, 1<<62+1, math.MaxInt64/2, greatest-1, greatest)
	for _, n := range l[1:] {
		l = append(l, -n)
	}
	l = append(l, least)
	r := rand.New(rand.NewPCG(3, 3))
	for k := range 63 {
		l = append(l, api.Fx(int64(r.Uint64())>>k))
	}
	return l
}

// whole makes an exact number of parts.
func whole(a api.Fx) *big.Int { return big.NewInt(int64(a)) }

// near rounds an exact quotient of parts by another reckoning than the package's own: the floor first, then up where that is nearer, or even.
func near(a, b *big.Int) *big.Int {
	if b.Sign() < 0 {
		a, b = new(big.Int).Neg(a), new(big.Int).Neg(b)
	}
	q, rest := new(big.Int).DivMod(a, b, new(big.Int))
	side := rest.Lsh(rest, 1).Cmp(b)
	if side > 0 || side == 0 && q.Bit(0) == 1 {
		q.Add(q, big.NewInt(1))
	}
	return q
}

// kept tells an exact result, or the bound next to it.
func kept(n *big.Int) answer {
	switch {
	case n.IsInt64():
		return answer{api.Fx(n.Int64()), false}
	case n.Sign() > 0:
		return answer{greatest, true}
	}
	return answer{least, true}
}

func sum(a, b api.Fx) answer  { return kept(new(big.Int).Add(whole(a), whole(b))) }
func rest(a, b api.Fx) answer { return kept(new(big.Int).Sub(whole(a), whole(b))) }

func product(a, b api.Fx) answer {
	return kept(near(new(big.Int).Mul(whole(a), whole(b)), whole(one)))
}

func quotient(a, b api.Fx) answer {
	if b == 0 {
		return answer{[]api.Fx{least, 0, greatest}[whole(a).Sign()+1], true}
	}
	return kept(near(new(big.Int).Mul(whole(a), whole(one)), whole(b)))
}

// hold makes a call with an M that is new, with one that has noted something already, and with none: all tell the same, and Over is noted and stays.
func hold(t *testing.T, name string, want answer, call func(m *fx.M) api.Fx) {
	t.Helper()
	fresh, old := &fx.M{}, &fx.M{Over: true}
	if got := (answer{call(fresh), fresh.Over}); got != want {
		t.Errorf("%s = %v, not %v", name, got, want)
	}
	if got := (answer{call(old), old.Over}); got != (answer{want.n, true}) {
		t.Errorf("%s = %v where Over was true, not %v", name, got, want.n)
	}
	if got := call(nil); got != want.n {
		t.Errorf("%s = %v for nil, not %v", name, got, want.n)
	}
}

// example is a call of two numbers, and what it tells.
type example struct {
	a, b api.Fx
	want answer
}

type binary func(m *fx.M, a, b api.Fx) api.Fx

func holdAll(t *testing.T, name string, call binary, examples []example) {
	t.Helper()
	for _, e := range examples {
		hold(t, name+"("+text(e.a)+", "+text(e.b)+")", e.want, func(m *fx.M) api.Fx { return call(m, e.a, e.b) })
	}
}

func holdPairs(t *testing.T, name string, call binary, want func(a, b api.Fx) answer) {
	t.Helper()
	for _, a := range numbers() {
		for _, b := range numbers() {
			hold(t, name+"("+text(a)+", "+text(b)+")", want(a, b), func(m *fx.M) api.Fx { return call(m, a, b) })
		}
	}
}

func text(a api.Fx) string { return whole(a).String() }

// Promise 2.1: Add.
func TestAdd(t *testing.T) {
	holdPairs(t, "Add", (*fx.M).Add, sum)
	holdAll(t, "Add", (*fx.M).Add, []example{
		{one, half, answer{3 * half, false}},
		{-one, one, answer{0, false}},
		{greatest, 1, answer{greatest, true}},
		{greatest - 1, 1, answer{greatest, false}},
		{greatest, greatest, answer{greatest, true}},
		{least, -1, answer{least, true}},
		{least + 1, -1, answer{least, false}},
		{least, least, answer{least, true}}, // what wraps round is 0
		{least, greatest, answer{-1, false}},
	})
}

// Promise 2.1: Sub.
func TestSub(t *testing.T) {
	holdPairs(t, "Sub", (*fx.M).Sub, rest)
	holdAll(t, "Sub", (*fx.M).Sub, []example{
		{one, 3 * one, answer{-2 * one, false}},
		{0, least, answer{greatest, true}},
		{-1, least, answer{greatest, false}}, // though -least does not fit
		{least, least, answer{0, false}},
		{least, 1, answer{least, true}},
		{greatest, -1, answer{greatest, true}},
		{greatest, least, answer{greatest, true}},
		{least, greatest, answer{least, true}},
		{-2, greatest, answer{least, true}},
		{-1, greatest, answer{least, false}},
	})
}

// Promise 2.1: Neg and Abs, and the one number whose opposite does not fit.
func TestNegAbs(t *testing.T) {
	for _, a := range numbers() {
		opposite := rest(0, a)
		size := answer{a, false}
		if a < 0 {
			size = opposite
		}
		hold(t, "Neg("+text(a)+")", opposite, func(m *fx.M) api.Fx { return m.Neg(a) })
		hold(t, "Abs("+text(a)+")", size, func(m *fx.M) api.Fx { return m.Abs(a) })
	}
	for _, c := range []struct {
		a        api.Fx
		neg, abs answer
	}{
		{least, answer{greatest, true}, answer{greatest, true}},
		{least + 1, answer{greatest, false}, answer{greatest, false}},
		{greatest, answer{least + 1, false}, answer{greatest, false}},
		{0, answer{0, false}, answer{0, false}},
		{-5, answer{5, false}, answer{5, false}},
		{5, answer{-5, false}, answer{5, false}},
	} {
		hold(t, "Neg("+text(c.a)+")", c.neg, func(m *fx.M) api.Fx { return m.Neg(c.a) })
		hold(t, "Abs("+text(c.a)+")", c.abs, func(m *fx.M) api.Fx { return m.Abs(c.a) })
	}
}

// Promise 2.2: Mul.
func TestMul(t *testing.T) {
	holdPairs(t, "Mul", (*fx.M).Mul, product)
	holdAll(t, "Mul", (*fx.M).Mul, []example{
		{3 * half, -5 * half, answer{-15 * half / 2, false}},
		{half, 1, answer{0, false}},
		{half, 3, answer{2, false}},
		{half, 5, answer{2, false}},
		{half, -1, answer{0, false}},
		{half, -3, answer{-2, false}},
		{half, -5, answer{-2, false}},
		{3 * half, 1, answer{2, false}},
		{half + 1, 1, answer{1, false}},
		{half - 1, 1, answer{0, false}},
		{greatest, one, answer{greatest, false}},
		{least, one, answer{least, false}},
		{least, -one, answer{greatest, true}},
		{greatest, -one, answer{least + 1, false}},
		{greatest, greatest, answer{greatest, true}},
		{least, least, answer{greatest, true}},
		{least, greatest, answer{least, true}},
		{greatest, 0, answer{0, false}},
		{1 << 62, 2*one - 1, answer{greatest - 1<<30 + 1, false}},
		{1 << 62, 2 * one, answer{greatest, true}},
		{1 << 62, -2 * one, answer{least, false}},
		{1 << 62, -2*one - 1, answer{least, true}},
	})
}

// Promise 2.2: the products that stop fitting: only what is beyond the bound when it is rounded is beyond.
func TestMulBounds(t *testing.T) {
	bound := new(big.Int).Lsh(big.NewInt(1), 95) // 2^63 parts, in parts of 2^-64
	for _, b := range numbers() {
		if b == 0 {
			continue
		}
		edge := new(big.Int).Quo(bound, whole(b))
		for off := int64(-2); off <= 2; off++ {
			n := new(big.Int).Add(edge, big.NewInt(off))
			if !n.IsInt64() {
				continue
			}
			a := api.Fx(n.Int64())
			hold(t, "Mul("+text(a)+", "+text(b)+")", product(a, b), func(m *fx.M) api.Fx { return m.Mul(a, b) })
			if a != least {
				hold(t, "Mul("+text(-a)+", "+text(b)+")", product(-a, b), func(m *fx.M) api.Fx { return m.Mul(-a, b) })
			}
		}
	}
	holdAll(t, "Mul", (*fx.M).Mul, []example{
		{3 * half, 6148914691236517205, answer{greatest, true}}, // 2^63 - 1/2 parts: 2^63 is even, and does not fit
		{-3 * half, 6148914691236517205, answer{least, false}},  // its opposite does
		{3 * half, 6148914691236517204, answer{greatest - 1, false}},
	})
}

// Promise 2.2: Div.
func TestDiv(t *testing.T) {
	holdPairs(t, "Div", (*fx.M).Div, quotient)
	holdAll(t, "Div", (*fx.M).Div, []example{
		{7 * one, -2 * one, answer{-7 * half, false}},
		{one, 3 * one, answer{1431655765, false}},
		{2 * one, 3 * one, answer{2863311531, false}},
		{1, 2 * one, answer{0, false}},
		{3, 2 * one, answer{2, false}},
		{5, 2 * one, answer{2, false}},
		{-1, 2 * one, answer{0, false}},
		{-3, 2 * one, answer{-2, false}},
		{3, -2 * one, answer{-2, false}},
		{-5, 2 * one, answer{-2, false}},
		{least, -one, answer{greatest, true}},
		{least, one, answer{least, false}},
		{greatest, half, answer{greatest, true}},
		{least, half, answer{least, true}},
		{greatest, -half, answer{least, true}},
		{least, -half, answer{greatest, true}},
		{1 << 31, 1, answer{greatest, true}},
		{1 << 31, -1, answer{least, false}},
		{1<<31 + 1, -1, answer{least, true}},
		{1<<31 - 1, 1, answer{1<<63 - 1<<32, false}},
		{0, least, answer{0, false}},
	})
}

// Promise 2.2: Div by 0, on each side of 0 and at 0.
func TestDivByZero(t *testing.T) {
	holdAll(t, "Div", (*fx.M).Div, []example{
		{one, 0, answer{greatest, true}},
		{1, 0, answer{greatest, true}},
		{greatest, 0, answer{greatest, true}},
		{-one, 0, answer{least, true}},
		{-1, 0, answer{least, true}},
		{least, 0, answer{least, true}},
		{0, 0, answer{0, true}},
	})
}

// Promise 2.3: Of.
func TestOf(t *testing.T) {
	for _, a := range numbers() {
		want := kept(new(big.Int).Lsh(whole(a), 32))
		hold(t, "Of("+text(a)+")", want, func(m *fx.M) api.Fx { return m.Of(int64(a)) })
	}
	for _, c := range []struct {
		n    int64
		want answer
	}{
		{0, answer{0, false}},
		{1, answer{one, false}},
		{-7, answer{-7 * one, false}},
		{1<<31 - 1, answer{1<<63 - 1<<32, false}},
		{1 << 31, answer{greatest, true}},
		{-1 << 31, answer{least, false}},
		{-1<<31 - 1, answer{least, true}},
		{1 << 32, answer{greatest, true}}, // what wraps round is 0
		{math.MaxInt64, answer{greatest, true}},
		{math.MinInt64, answer{least, true}},
	} {
		hold(t, "Of("+text(api.Fx(c.n))+")", c.want, func(m *fx.M) api.Fx { return m.Of(c.n) })
	}
}

// Promise 2.3: Ratio, which is Div for numbers of so many parts.
func TestRatio(t *testing.T) {
	ratio := func(m *fx.M, a, b api.Fx) api.Fx { return m.Ratio(int64(a), int64(b)) }
	holdPairs(t, "Ratio", ratio, quotient)
	holdAll(t, "Ratio", ratio, []example{
		{1, 4, answer{one / 4, false}},
		{1, 3, answer{1431655765, false}},
		{-1, 3, answer{-1431655765, false}},
		{1, 1 << 33, answer{0, false}},
		{3, 1 << 33, answer{2, false}},
		{1 << 32, 1, answer{greatest, true}},
		{1 << 40, 1 << 38, answer{4 * one, false}}, // though neither fits as a number by itself
		{math.MinInt64, -1, answer{greatest, true}},
		{5, 0, answer{greatest, true}},
		{-5, 0, answer{least, true}},
		{0, 0, answer{0, true}},
	})
}

// Promise 2.3: Floor.
func TestFloor(t *testing.T) {
	for _, a := range numbers() {
		want, _ := new(big.Int).DivMod(whole(a), whole(one), new(big.Int))
		if got := fx.Floor(a); got != want.Int64() {
			t.Errorf("Floor(%d) = %d, not %v", a, got, want)
		}
	}
	for _, c := range []struct {
		a    api.Fx
		want int64
	}{
		{5 * half, 2}, {-1, -1}, {0, 0}, {1, 0}, {one - 1, 0}, {one, 1}, {-one, -1}, {-one - 1, -2}, {-5 * half, -3},
		{greatest, 1<<31 - 1}, {least, -1 << 31},
	} {
		if got := fx.Floor(c.a); got != c.want {
			t.Errorf("Floor(%d) = %d, not %d", c.a, got, c.want)
		}
	}
}

// Promise 2.4: Clamp, also where low is above high.
func TestClamp(t *testing.T) {
	for _, c := range []struct{ a, low, high, want api.Fx }{
		{5, 0, 3, 3},
		{-5, 0, 3, 0},
		{2, 0, 3, 2},
		{0, 0, 3, 0},
		{3, 0, 3, 3},
		{-1, 0, 3, 0},
		{4, 0, 3, 3},
		{7, 7, 7, 7},
		{greatest, least, greatest, greatest},
		{least, least, greatest, least},
		{least, 0, 0, 0},
		{2, 5, 1, 5}, // less than low goes first
		{0, 5, 1, 5},
		{7, 5, 1, 1},
		{5, 5, 1, 1},
		{1, 5, 1, 5},
	} {
		if got := fx.Clamp(c.a, c.low, c.high); got != c.want {
			t.Errorf("Clamp(%d, %d, %d) = %d, not %d", c.a, c.low, c.high, got, c.want)
		}
	}
}

// steps reckons Mix step by step: what one step puts in place of what does not fit goes on.
func steps(a, b, t api.Fx) answer {
	way := rest(b, a)
	part := product(way.n, t)
	end := sum(a, part.n)
	return answer{end.n, way.over || part.over || end.over}
}

// Promise 2.4: Mix.
func TestMix(t *testing.T) {
	for _, a := range numbers() {
		for _, b := range numbers() {
			for _, part := range []api.Fx{0, 1, one / 4, half, one - 1, one, one + 1, 2 * one, -1, -half, -one, 1 << 40, greatest, least} {
				hold(t, "Mix("+text(a)+", "+text(b)+", "+text(part)+")", steps(a, b, part), func(m *fx.M) api.Fx { return m.Mix(a, b, part) })
			}
		}
	}
	for _, c := range []struct {
		a, b, t api.Fx
		want    answer
	}{
		{one, 3 * one, one / 4, answer{3 * half, false}},
		{one, 3 * one, 0, answer{one, false}},
		{one, 3 * one, one, answer{3 * one, false}},
		{one, 3 * one, 2 * one, answer{5 * one, false}},
		{one, 3 * one, -one, answer{-one, false}},
		{3 * one, one, one / 4, answer{5 * half, false}},
		{0, 1, half, answer{0, false}},
		{1, 0, half, answer{1, false}},            // -1/2 part is rounded to 0 ahead of the sum
		{least, greatest, 0, answer{least, true}}, // the difference does not fit, whatever it counts
		{least, greatest, one, answer{-1, true}},
		{greatest, greatest, least, answer{greatest, false}},
		{0, 1 << 62, 2 * one, answer{greatest, true}},
		{least, -1, 2 * one, answer{-1, true}}, // greatest - 1 would fit, but the step ahead of it does not
	} {
		hold(t, "Mix("+text(c.a)+", "+text(c.b)+", "+text(c.t)+")", c.want, func(m *fx.M) api.Fx { return m.Mix(c.a, c.b, c.t) })
	}
}

// Promise 2.5: Over stays true, whatever is reckoned behind it, and an M that has noted it reckons on.
func TestOverStays(t *testing.T) {
	m := &fx.M{}
	if m.Add(one, one); m.Over {
		t.Fatal("Over is true ahead of what does not fit")
	}
	m.Add(greatest, 1)
	for name, got := range map[string]api.Fx{
		"Add": m.Add(one, one), "Sub": m.Sub(3*one, one), "Neg": m.Neg(-2 * one), "Abs": m.Abs(-2 * one), "Mul": m.Mul(4*one, half),
		"Div": m.Div(one, half), "Of": m.Of(2), "Ratio": m.Ratio(4, 2), "Mix": m.Mix(one, 3*one, half),
	} {
		if got != 2*one || !m.Over {
			t.Errorf("%s = %d, Over %v", name, got, m.Over)
		}
	}
}

// Promise 2.5: a factor that is not negative keeps the order.
func TestMulOrder(t *testing.T) {
	for _, a := range numbers() {
		for _, b := range numbers() {
			for _, c := range numbers() {
				m := (*fx.M)(nil)
				if c >= 0 && a <= b && m.Mul(a, c) > m.Mul(b, c) {
					t.Errorf("%d and %d change their order by %d", a, b, c)
				}
			}
		}
	}
}

// Promises 2.1 and 2.2 at numbers of every length, beyond the edges that the other tests list.
func TestAnyNumbers(t *testing.T) {
	r := rand.New(rand.NewPCG(4, 4))
	draw := func() api.Fx { return api.Fx(int64(r.Uint64()) >> r.IntN(64)) }
	for range 20000 {
		a, b := draw(), draw()
		holdAll(t, "Add", (*fx.M).Add, []example{{a, b, sum(a, b)}})
		holdAll(t, "Sub", (*fx.M).Sub, []example{{a, b, rest(a, b)}})
		holdAll(t, "Mul", (*fx.M).Mul, []example{{a, b, product(a, b)}})
		holdAll(t, "Div", (*fx.M).Div, []example{{a, b, quotient(a, b)}})
	}
}
