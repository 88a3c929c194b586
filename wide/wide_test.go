package wide_test

import (
	"math"
	"math/big"
	"math/rand/v2"
	"testing"

	"chicane/wide"
)

var (
	greatest = wide.Int{Hi: math.MaxInt64, Lo: math.MaxUint64}
	least    = wide.Int{Hi: math.MinInt64}
)

// exact tells a wide number by another reckoning than the package's own.
func exact(a wide.Int) *big.Int {
	n := new(big.Int).Lsh(big.NewInt(a.Hi), 64)
	return n.Add(n, new(big.Int).SetUint64(a.Lo))
}

// fits tells the wide number of an exact one, and zero and false where there is none.
func fits(n *big.Int) (wide.Int, bool) {
	if n.Cmp(exact(least)) < 0 || n.Cmp(exact(greatest)) > 0 {
		return wide.Int{}, false
	}
	low := new(big.Int).SetUint64(math.MaxUint64)
	hi := new(big.Int).Rsh(n, 64)
	return wide.Int{Hi: hi.Int64(), Lo: low.And(low, n).Uint64()}, true
}

// shorts are numbers at the edges of an int64 and of its halves, and some of every length.
func shorts() []int64 {
	l := []int64{0, 1, 2, 3, 4, 5, 7, 8, 9, 10, 99, 100, 1000003}
	for _, k := range []int{16, 31, 32, 33, 47, 61, 62} {
		l = append(l, 1<<k-1, 1<<k, 1<<k+1)
	}
	l = append(l, math.MaxInt64-1, math.MaxInt64)
	for _, n := range l[1:] {
		l = append(l, -n)
	}
	l = append(l, math.MinInt64)
	r := rand.New(rand.NewPCG(1, 1))
	for k := range 63 {
		l = append(l, int64(r.Uint64()>>k))
	}
	return l
}

// longs are wide numbers at the edges of the range and of its halves, and some of every length.
func longs() []wide.Int {
	var l []wide.Int
	halves := []uint64{0, 1, 2, 3, 1<<32 - 1, 1 << 32, 1<<62 + 1, 1<<63 - 1, 1 << 63, 1<<63 + 1, math.MaxUint64 - 1, math.MaxUint64}
	for _, hi := range halves {
		for _, lo := range halves {
			l = append(l, wide.Int{Hi: int64(hi), Lo: lo})
		}
	}
	r := rand.New(rand.NewPCG(2, 2))
	for k := range 127 {
		n := wide.Int{Hi: int64(r.Uint64()), Lo: r.Uint64()}
		short, _ := fits(new(big.Int).Rsh(exact(n), uint(k)))
		l = append(l, short)
	}
	return l
}

// Promise 1.1: Of.
func TestOf(t *testing.T) {
	for _, n := range shorts() {
		if a := wide.Of(n); exact(a).Cmp(big.NewInt(n)) != 0 {
			t.Errorf("Of(%d) = %v", n, a)
		}
	}
	if a := wide.Of(math.MinInt64); a != (wide.Int{Hi: -1, Lo: 1 << 63}) {
		t.Errorf("Of(-2^63) = %v", a)
	}
}

// Promise 1.1: Mul; and of 1.5: the order of the factors.
func TestMul(t *testing.T) {
	for _, a := range shorts() {
		for _, b := range shorts() {
			want, _ := fits(new(big.Int).Mul(big.NewInt(a), big.NewInt(b)))
			if got := wide.Mul(a, b); got != want {
				t.Errorf("Mul(%d, %d) = %v, not %v", a, b, got, want)
			}
			if got, turned := wide.Mul(a, b), wide.Mul(b, a); got != turned {
				t.Errorf("Mul(%d, %d) = %v, turned %v", a, b, got, turned)
			}
		}
	}
}

// Promise 1.1: the chapter's examples of Mul.
func TestMulExamples(t *testing.T) {
	for _, c := range []struct {
		a, b int64
		want wide.Int
	}{
		{math.MinInt64, math.MinInt64, wide.Int{Hi: 1 << 62}},
		{-1, 5, wide.Int{Hi: -1, Lo: math.MaxUint64 - 4}},
	} {
		if got := wide.Mul(c.a, c.b); got != c.want {
			t.Errorf("Mul(%d, %d) = %v, not %v", c.a, c.b, got, c.want)
		}
	}
}

// Promise 1.1: Add, its sums and those that do not fit.
func TestAdd(t *testing.T) {
	for _, a := range longs() {
		for _, b := range longs() {
			want, ok := fits(new(big.Int).Add(exact(a), exact(b)))
			if got, fine := wide.Add(a, b); got != want || fine != ok {
				t.Errorf("Add(%v, %v) = %v, %v, not %v, %v", a, b, got, fine, want, ok)
			}
		}
	}
}

// Promise 1.1: both edges of Add.
func TestAddEdges(t *testing.T) {
	one, minus := wide.Of(1), wide.Of(-1)
	for _, c := range []struct {
		a, b, want wide.Int
		ok         bool
	}{
		{greatest, one, wide.Int{}, false},
		{least, minus, wide.Int{}, false},
		{least, least, wide.Int{}, false},
		{greatest, wide.Int{}, greatest, true},
		{greatest, minus, wide.Int{Hi: math.MaxInt64, Lo: math.MaxUint64 - 1}, true},
		{least, wide.Int{}, least, true},
		{least, one, wide.Int{Hi: math.MinInt64, Lo: 1}, true},
		{greatest, least, minus, true},
	} {
		if got, ok := wide.Add(c.a, c.b); got != c.want || ok != c.ok {
			t.Errorf("Add(%v, %v) = %v, %v, not %v, %v", c.a, c.b, got, ok, c.want, c.ok)
		}
	}
}

// Promise 1.1: Neg, and the one number that has none.
func TestNeg(t *testing.T) {
	for _, a := range longs() {
		want, ok := fits(new(big.Int).Neg(exact(a)))
		if got, fine := wide.Neg(a); got != want || fine != ok {
			t.Errorf("Neg(%v) = %v, %v, not %v, %v", a, got, fine, want, ok)
		}
	}
	if got, ok := wide.Neg(least); got != (wide.Int{}) || ok {
		t.Errorf("Neg(-2^127) = %v, %v", got, ok)
	}
	if got, ok := wide.Neg(wide.Int{}); got != (wide.Int{}) || !ok {
		t.Errorf("Neg(0) = %v, %v", got, ok)
	}
}

// Promise 1.2: Sign.
func TestSign(t *testing.T) {
	for _, a := range longs() {
		if got, want := wide.Sign(a), exact(a).Sign(); got != want {
			t.Errorf("Sign(%v) = %d, not %d", a, got, want)
		}
	}
	if got := wide.Sign(wide.Of(-5)); got != -1 {
		t.Errorf("Sign(-5) = %d", got)
	}
}

// Promise 1.2: Cmp.
func TestCmp(t *testing.T) {
	for _, a := range longs() {
		for _, b := range longs() {
			if got, want := wide.Cmp(a, b), exact(a).Cmp(exact(b)); got != want {
				t.Errorf("Cmp(%v, %v) = %d, not %d", a, b, got, want)
			}
		}
	}
	if got := wide.Cmp(wide.Of(-1), wide.Of(0)); got != -1 {
		t.Errorf("Cmp(-1, 0) = %d", got)
	}
}

// quotient divides by another reckoning: the floor first, then up where that is nearer, or even.
func quotient(a wide.Int, b int64) (int64, bool) {
	if b == 0 {
		return 0, false
	}
	n, d := exact(a), big.NewInt(b)
	if b < 0 {
		n.Neg(n)
		d.Neg(d)
	}
	q, rest := new(big.Int).DivMod(n, d, new(big.Int))
	near := rest.Lsh(rest, 1).Cmp(d)
	if near > 0 || near == 0 && q.Bit(0) == 1 {
		q.Add(q, big.NewInt(1))
	}
	if !q.IsInt64() {
		return 0, false
	}
	return q.Int64(), true
}

func holdQuotient(t *testing.T, a wide.Int, b int64) {
	t.Helper()
	want, ok := quotient(a, b)
	if got, fine := wide.Div(a, b); got != want || fine != ok {
		t.Errorf("Div(%v, %d) = %d, %v, not %d, %v", a, b, got, fine, want, ok)
	}
}

// Promise 1.3: Div.
func TestDiv(t *testing.T) {
	for _, b := range shorts() {
		for _, a := range longs() {
			holdQuotient(t, a, b)
		}
		for _, a := range shorts() {
			holdQuotient(t, wide.Of(a), b)
		}
	}
}

// Promise 1.3: the nearest and the even one, at half of the divisor and one on each side of it, up to where quotients stop fitting.
func TestDivHalves(t *testing.T) {
	for _, b := range shorts() {
		for _, q := range shorts() {
			for off := int64(-1); off <= 1; off++ {
				above, _ := wide.Add(wide.Mul(b, q), wide.Of(b/2+off))
				below, _ := wide.Add(wide.Mul(b, q), wide.Of(-b/2-off))
				holdQuotient(t, above, b)
				holdQuotient(t, below, b)
			}
		}
	}
}

// Promise 1.3: the chapter's examples, and quotients just inside and just outside of an int64.
func TestDivExamples(t *testing.T) {
	edge := wide.Int{Lo: 1 << 63} // 2^63
	for _, c := range []struct {
		a    wide.Int
		b    int64
		want int64
		ok   bool
	}{
		{wide.Of(5), 2, 2, true},
		{wide.Of(7), 2, 4, true},
		{wide.Of(-8), 3, -3, true},
		{wide.Of(-5), 2, -2, true},
		{wide.Of(7), -2, -4, true},
		{wide.Of(1), 2, 0, true},
		{wide.Of(-1), 2, 0, true},
		{wide.Of(math.MinInt64), -1, 0, false},
		{wide.Of(math.MinInt64), 1, math.MinInt64, true},
		{edge, 1, 0, false},
		{edge, -1, math.MinInt64, true},
		{wide.Of(9), 0, 0, false},
		{wide.Of(0), 0, 0, false},
		{least, 0, 0, false},
		{least, -1, 0, false},
		{least, math.MinInt64, 0, false}, // 2^64
		{wide.Int{Hi: 1<<62 - 1, Lo: 1<<63 + 1}, math.MinInt64, math.MinInt64 + 1, true},
		{wide.Int{Lo: math.MaxUint64}, 2, 0, false},                // 2^63 - 1/2 rounds up to 2^63
		{wide.Int{Lo: math.MaxUint64}, -2, math.MinInt64, true},    // and fits with the other sign
		{wide.Int{Lo: math.MaxUint64 - 1}, 2, math.MaxInt64, true}, // 2^63 - 1
		{wide.Int{Hi: 1, Lo: math.MaxUint64}, 2, 0, false},         // 2^64 - 1/2
		{wide.Int{Hi: -2, Lo: 1}, 2, 0, false},                     // the same below 0
		{wide.Int{Hi: 1, Lo: 1}, -2, math.MinInt64, true},          // -2^63 - 1/2 is even at -2^63
		{wide.Int{Hi: 1, Lo: 2}, -2, 0, false},                     // -2^63 - 1
	} {
		if got, ok := wide.Div(c.a, c.b); got != c.want || ok != c.ok {
			t.Errorf("Div(%v, %d) = %d, %v, not %d, %v", c.a, c.b, got, ok, c.want, c.ok)
		}
	}
}

func holdRoot(t *testing.T, a wide.Int) {
	t.Helper()
	want := new(big.Int)
	if wide.Sign(a) > 0 {
		want.Sqrt(exact(a))
	}
	if got := wide.Root(a); want.Cmp(new(big.Int).SetUint64(got)) != 0 {
		t.Errorf("Root(%v) = %d, not %v", a, got, want)
	}
}

// Promise 1.4: Root, at and on both sides of squares, at the edges of the range, and of negative numbers.
func TestRoot(t *testing.T) {
	for _, a := range longs() {
		holdRoot(t, a)
	}
	for _, n := range shorts() {
		square := wide.Mul(n, n)
		for _, off := range []int64{-1, 0, 1} {
			a, _ := wide.Add(square, wide.Of(off))
			holdRoot(t, a)
		}
	}
	for n := range int64(5000) {
		holdRoot(t, wide.Of(n))
	}
	for _, c := range []struct {
		a    wide.Int
		want uint64
	}{
		{wide.Of(99), 9},
		{wide.Of(100), 10},
		{wide.Of(0), 0},
		{wide.Of(1), 1},
		{wide.Of(-1), 0},
		{wide.Of(-100), 0},
		{least, 0},
		{greatest, 13043817825332782212},
		{wide.Int{Hi: 1 << 62}, 1 << 63},
	} {
		if got := wide.Root(c.a); got != c.want {
			t.Errorf("Root(%v) = %d, not %d", c.a, got, c.want)
		}
	}
}

// share reckons Part by another way.
func share(a, b wide.Int) uint32 {
	n, d := exact(a), exact(b)
	if n.Sign() < 0 || n.Cmp(d) >= 0 {
		return 0
	}
	n.Lsh(n, 32)
	return uint32(n.Quo(n, d).Uint64())
}

// Promise 1.4: Part, and what is no part.
func TestPart(t *testing.T) {
	for _, a := range longs() {
		for _, b := range longs() {
			if got, want := wide.Part(a, b), share(a, b); got != want {
				t.Errorf("Part(%v, %v) = %d, not %d", a, b, got, want)
			}
		}
	}
	for _, c := range []struct {
		a, b wide.Int
		want uint32
	}{
		{wide.Of(3), wide.Of(4), 3 << 30},
		{wide.Of(1), wide.Of(3), 1431655765},
		{wide.Of(0), wide.Of(3), 0},
		{wide.Of(3), wide.Of(3), 0},
		{wide.Of(4), wide.Of(3), 0},
		{wide.Of(-1), wide.Of(3), 0},
		{wide.Of(-3), wide.Of(-1), 0},
		{wide.Of(0), wide.Of(0), 0},
		{wide.Of(1), wide.Of(0), 0},
		{wide.Of(1), wide.Of(-3), 0},
		{wide.Of(1), wide.Of(1<<32 + 1), 0},
		{wide.Of(1), wide.Of(1 << 32), 1},
		{wide.Int{Hi: math.MaxInt64, Lo: math.MaxUint64 - 1}, greatest, math.MaxUint32},
		{wide.Int{Hi: 1 << 62}, greatest, 1 << 31},
	} {
		if got := wide.Part(c.a, c.b); got != c.want {
			t.Errorf("Part(%v, %v) = %d, not %d", c.a, c.b, got, c.want)
		}
	}
}

// Promise 1.5: twice what the quotient times the divisor lacks is at most the divisor, signs aside.
func TestDivNear(t *testing.T) {
	for _, a := range longs() {
		for _, b := range shorts() {
			q, ok := wide.Div(a, b)
			if !ok {
				continue
			}
			lack := exact(a)
			lack.Sub(lack, exact(wide.Mul(q, b)))
			if lack.Lsh(lack, 1).CmpAbs(big.NewInt(b)) > 0 {
				t.Errorf("Div(%v, %d) = %d lacks %v halves", a, b, q, lack)
			}
		}
	}
}

// Promise 1.5: the square of a root is at most the number, and that of the next integer is greater.
func TestRootBetween(t *testing.T) {
	for _, a := range longs() {
		if wide.Sign(a) < 0 {
			continue
		}
		root := new(big.Int).SetUint64(wide.Root(a))
		next := new(big.Int).Add(root, big.NewInt(1))
		if root.Mul(root, root).Cmp(exact(a)) > 0 || next.Mul(next, next).Cmp(exact(a)) <= 0 {
			t.Errorf("Root(%v) = %d", a, wide.Root(a))
		}
	}
}
