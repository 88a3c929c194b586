package root_test

import (
	"math"
	"math/big"
	"math/rand/v2"
	"testing"

	"chicane/api"
	"chicane/fx"
	"chicane/root"
)

const (
	one      = api.One
	half     = api.One / 2
	greatest = api.Fx(math.MaxInt64)
	least    = api.Fx(math.MinInt64)
)

// edges are numbers at the edges of the range, of what can be squared or added in 64 and 128 bits, of 1 and of a part.
func edges() []api.Fx {
	l := []api.Fx{0, 1, 2, 3, half, one - 1, one, one + 1, 3 * one, 4 * one}
	l = append(l, 3037000499, 3037000500, 1<<61, 1<<62-1, 1<<62, 1<<62+1)
	l = append(l, 6521908912666391106, 6521908912666391107) // about 2^62.5, where the squares of two make 2^126
	l = append(l, greatest-1, greatest)
	for _, n := range l[1:] {
		l = append(l, -n)
	}
	return append(l, least)
}

// numbers are the edges, squares and their neighbours, and some numbers of every length.
func numbers() []api.Fx {
	l := edges()
	for _, n := range []api.Fx{5, 7, 10, 99, 1000, 46340} {
		l = append(l, n, n*n-1, n*n, n*n+1, n*n*one-1, n*n*one, n*n*one+1)
	}
	r := rand.New(rand.NewPCG(5, 5))
	for k := range 63 {
		l = append(l, api.Fx(int64(r.Uint64())>>k))
	}
	return l
}

// vectors calls with vectors of so many sides: the edges with each other, and sides of every length drawn by a fixed rule.
func vectors(sides int, call func(v []api.Fx)) {
	edges, v := edges(), make([]api.Fx, sides)
	var fill func(k int)
	fill = func(k int) {
		if k == sides {
			call(v)
			return
		}
		for i, n := range edges {
			// Of four, every third edge is enough for the last two, with both ends of the range.
			if k < 2 || i%3 == 0 || n == greatest || n == least {
				v[k] = n
				fill(k + 1)
			}
		}
	}
	fill(0)
	r := rand.New(rand.NewPCG(7, uint64(sides)))
	for range 20000 {
		shift := r.IntN(63)
		for k := range v {
			v[k] = api.Fx(int64(r.Uint64()) >> min(63, shift+r.IntN(4)))
		}
		call(v)
	}
}

// whole makes an exact number of parts.
func whole(a api.Fx) *big.Int { return big.NewInt(int64(a)) }

// text tells numbers of parts.
func text(v ...api.Fx) string {
	s := ""
	for _, a := range v {
		s += " " + whole(a).String()
	}
	return s
}

// floorRoot tells the greatest integer whose square is at most n, bit by bit: another reckoning than the package's own.
func floorRoot(n *big.Int) *big.Int {
	root := new(big.Int)
	for bit := n.BitLen() / 2; bit >= 0; bit-- {
		root.SetBit(root, bit, 1)
		if new(big.Int).Mul(root, root).Cmp(n) > 0 {
			root.SetBit(root, bit, 0)
		}
	}
	return root
}

// squares adds exact squares.
func squares(v ...api.Fx) *big.Int {
	sum := new(big.Int)
	for _, a := range v {
		sum.Add(sum, new(big.Int).Mul(whole(a), whole(a)))
	}
	return sum
}

// answer is what a call tells, and whether the result did not fit.
type answer struct {
	n    api.Fx
	over bool
}

// long tells a length by the other reckoning.
func long(v ...api.Fx) answer {
	n := floorRoot(squares(v...))
	if !n.IsInt64() {
		return answer{greatest, true}
	}
	return answer{api.Fx(n.Int64()), false}
}

// length calls the function for so many sides.
func length(m *fx.M, v ...api.Fx) api.Fx {
	switch len(v) {
	case 2:
		return root.Len2(m, v[0], v[1])
	case 3:
		return root.Len3(m, v[0], v[1], v[2])
	}
	return root.Len4(m, v[0], v[1], v[2], v[3])
}

// holdLength makes a call with an M that is new, with one that has noted something already, and with none: all tell the same, and Over is noted and stays.
func holdLength(t *testing.T, want answer, v ...api.Fx) {
	t.Helper()
	fresh, old := &fx.M{}, &fx.M{Over: true}
	if got := (answer{length(fresh, v...), fresh.Over}); got != want {
		t.Fatalf("length of%s = %v, not %v", text(v...), got, want)
	}
	if got := (answer{length(old, v...), old.Over}); got != (answer{want.n, true}) {
		t.Fatalf("length of%s = %v where Over was true, not %v", text(v...), got, want.n)
	}
	if got := length(nil, v...); got != want.n {
		t.Fatalf("length of%s = %v for nil, not %v", text(v...), got, want.n)
	}
}

// direction is what a call for a direction tells; of two sides the third number stays 0.
type direction struct {
	sides [3]api.Fx
	ok    bool
	over  bool
}

// unit calls the function for so many sides.
func unit(m *fx.M, v ...api.Fx) direction {
	d := direction{}
	if len(v) == 2 {
		d.sides[0], d.sides[1], d.ok = root.Unit2(m, v[0], v[1])
	} else {
		d.sides[0], d.sides[1], d.sides[2], d.ok = root.Unit3(m, v[0], v[1], v[2])
	}
	d.over = m != nil && m.Over
	return d
}

// near rounds the exact quotient of a size and a divisor that is not 0, the floor first, then up where that is nearer, or even.
func near(a, b api.Fx) api.Fx {
	size := new(big.Int).Lsh(new(big.Int).Abs(whole(a)), api.Bits)
	q, rest := new(big.Int).DivMod(size, whole(b), new(big.Int))
	side := rest.Lsh(rest, 1).Cmp(whole(b))
	if side > 0 || side == 0 && q.Bit(0) == 1 {
		q.Add(q, big.NewInt(1))
	}
	return api.Fx(q.Int64() * int64(whole(a).Sign()))
}

// toward tells a direction by the other reckoning.
func toward(v ...api.Fx) direction {
	l := long(v...)
	if l.n == 0 {
		return direction{}
	}
	d := direction{ok: true, over: l.over}
	for k, a := range v {
		d.sides[k] = near(a, l.n)
	}
	return d
}

func holdUnit(t *testing.T, want direction, v ...api.Fx) {
	t.Helper()
	if got := unit(&fx.M{}, v...); got != want {
		t.Fatalf("unit of%s = %v, not %v", text(v...), got, want)
	}
	noted := want
	noted.over = true
	if got := unit(&fx.M{Over: true}, v...); got != noted {
		t.Fatalf("unit of%s = %v where Over was true, not %v", text(v...), got, noted)
	}
	silent := want
	silent.over = false
	if got := unit(nil, v...); got != silent {
		t.Fatalf("unit of%s = %v for nil, not %v", text(v...), got, silent)
	}
}

// Promise 3.1: Sqrt.
func TestSqrt(t *testing.T) {
	for _, a := range numbers() {
		want := api.Fx(0)
		if a > 0 {
			want = api.Fx(floorRoot(new(big.Int).Lsh(whole(a), api.Bits)).Int64())
		}
		if got := root.Sqrt(a); got != want {
			t.Errorf("Sqrt(%d) = %d, not %d", a, got, want)
		}
	}
	for _, c := range [][2]api.Fx{
		{9 * one / 4, 3 * half},
		{2 * one, 6074000999},
		{4 * one, 2 * one},
		{one, one},
		{one - 1, one - 1},
		{one + 1, one},
		{one + 2, one}, // the exact square of 1 and a part is a little more than 1 and 2 parts
		{one + 3, one + 1},
		{1, 1 << 16}, // rounded, the squares of greater ones would be 1 part too
		{2, 92681},
		{0, 0},
		{-1, 0},
		{-one, 0},
		{-4 * one, 0},
		{least, 0},
		{greatest, 199032864766430},
	} {
		if got := root.Sqrt(c[0]); got != c[1] {
			t.Errorf("Sqrt(%d) = %d, not %d", c[0], got, c[1])
		}
	}
}

// Promise 3.1: the root of a whole square is exact, and a part below it the root is less.
func TestSqrtSquares(t *testing.T) {
	for _, n := range []api.Fx{1, 2, 3, 5, 7, 99, 1000, 4096, 40000, 46339, 46340} {
		square := n * n * one
		if got := root.Sqrt(square); got != n*one {
			t.Errorf("Sqrt(%d) = %d, not %d", square, got, n*one)
		}
		if got := root.Sqrt(square - 1); got != n*one-1 {
			t.Errorf("Sqrt(%d) = %d, not %d", square-1, got, n*one-1)
		}
	}
}

// Promise 3.2: Len2, Len3 and Len4.
func TestLen(t *testing.T) {
	for sides := 2; sides <= 4; sides++ {
		vectors(sides, func(v []api.Fx) { holdLength(t, long(v...), v...) })
	}
	for _, c := range []struct {
		want api.Fx
		v    []api.Fx
	}{
		{5 * one, []api.Fx{3 * one, 4 * one}},
		{5, []api.Fx{-3, 4}}, // exact, where rounded squares would all be 0
		{1, []api.Fx{1, 1}},
		{0, []api.Fx{0, 0}},
		{one, []api.Fx{0, -one}},
		{one, []api.Fx{one, 92681}}, // the square of a part more than 1 is 2^64 + 2^33 + 1
		{one + 1, []api.Fx{one, 92682}},
		{7 * one, []api.Fx{2 * one, -3 * one, 6 * one}},
		{1, []api.Fx{1, 1, 1}},
		{0, []api.Fx{0, 0, 0}},
		{3, []api.Fx{2, 2, -1}},
		{2, []api.Fx{1, -1, 1, -1}},
		{0, []api.Fx{0, 0, 0, 0}},
		{9 * one, []api.Fx{8 * one, 0, -4 * one, one}},
		{one, []api.Fx{half, half, -half, half}},
	} {
		holdLength(t, answer{c.want, false}, c.v...)
	}
}

// Promise 3.2: what does not fit: a sum, or its root, and what just fits.
func TestLenBounds(t *testing.T) {
	fits := func(want api.Fx, v ...api.Fx) { t.Helper(); holdLength(t, answer{want, false}, v...) }
	beyond := func(v ...api.Fx) { t.Helper(); holdLength(t, answer{greatest, true}, v...) }
	fits(greatest, greatest, 0)
	fits(greatest, 0, -greatest)
	fits(greatest, greatest, one-1) // the greatest sum but a few whose root is the greatest number
	beyond(greatest, one)           // 2^126 + 1: the sum fits, its root is 2^63
	beyond(one, -greatest)
	beyond(least, 0) // 2^126
	beyond(0, least)
	beyond(greatest, greatest)
	beyond(least, greatest)
	beyond(least, least) // 2^127: the sum does not fit
	beyond(0, least, 0)
	fits(greatest, 0, greatest, one-1)
	beyond(one, 0, greatest)
	beyond(least, least, 0) // a sum that does not fit stays so
	beyond(least, least, one)
	beyond(0, least, least)
	beyond(least, least, least)
	fits(greatest-1, 1<<62, 1<<62, 1<<62, 1<<62-3)
	fits(greatest, 1<<62, 1<<62, 1<<62, 1<<62-2) // 2^126 - 2^64 + 4, 3 more than the square of the greatest number
	beyond(1<<62, 1<<62, 1<<62, 1<<62)           // 2^126
	beyond(least, 0, 0, 0)
	beyond(0, 0, 0, least)
	beyond(least, least, 0, 0)
	beyond(one, 0, least, least)
	beyond(least, least, least, least) // what wraps round is 0
	beyond(greatest, greatest, greatest, greatest)
}

// Promise 3.3: Unit2 and Unit3.
func TestUnit(t *testing.T) {
	for sides := 2; sides <= 3; sides++ {
		vectors(sides, func(v []api.Fx) { holdUnit(t, toward(v...), v...) })
	}
	m := &fx.M{}
	holdUnit(t, direction{sides: [3]api.Fx{m.Div(-3*one, 5*one), m.Div(4*one, 5*one)}, ok: true}, -6*one, 8*one)
	sides := [3]api.Fx{m.Div(2*one, 7*one), m.Div(-3*one, 7*one), m.Div(6*one, 7*one)}
	holdUnit(t, direction{sides: sides, ok: true}, 20*one, -30*one, 60*one)
	holdUnit(t, direction{sides: [3]api.Fx{one}, ok: true}, 3*one, 0)
	holdUnit(t, direction{sides: [3]api.Fx{0, -one}, ok: true}, 0, -1)
	holdUnit(t, direction{sides: [3]api.Fx{0, 0, one}, ok: true}, 0, 0, greatest)
	if m.Over {
		t.Error("a quotient of the test does not fit")
	}
}

// Promise 3.3: no direction for the length 0, and nothing is noted then; a part is enough for one.
func TestUnitNought(t *testing.T) {
	holdUnit(t, direction{}, 0, 0)
	holdUnit(t, direction{}, 0, 0, 0)
	holdUnit(t, direction{sides: [3]api.Fx{one}, ok: true}, 1, 0)
	holdUnit(t, direction{sides: [3]api.Fx{0, one, 0}, ok: true}, 0, 1, 0)
	// Lengths are rounded down: the root of 2 parts squared is 1 part.
	holdUnit(t, direction{sides: [3]api.Fx{one, -one}, ok: true}, 1, -1)
	holdUnit(t, direction{sides: [3]api.Fx{one, one, one}, ok: true}, 1, 1, 1)
}

// Promise 3.3: a length that does not fit is noted, and the greatest number divides in its place.
func TestUnitBounds(t *testing.T) {
	holdUnit(t, direction{sides: [3]api.Fx{-one}, ok: true, over: true}, least, 0)
	holdUnit(t, direction{sides: [3]api.Fx{-one, -one}, ok: true, over: true}, least, least)
	holdUnit(t, direction{sides: [3]api.Fx{one, -one}, ok: true, over: true}, greatest, -greatest)
	holdUnit(t, direction{sides: [3]api.Fx{-one, one, 2}, ok: true, over: true}, least, greatest, 1<<32)
	holdUnit(t, direction{sides: [3]api.Fx{-one, -one, -one}, ok: true, over: true}, least, least, least)
	holdUnit(t, direction{sides: [3]api.Fx{one, 2}, ok: true}, greatest, one-1) // the length is the greatest number, and fits
}

// Promise 3.4: a length is between the greatest size of a component and the sum of all sizes.
func TestLenBetween(t *testing.T) {
	for sides := 2; sides <= 4; sides++ {
		vectors(sides, func(v []api.Fx) {
			m := &fx.M{}
			n, sum := length(m, v...), new(big.Int)
			for _, a := range v {
				sum.Add(sum, new(big.Int).Abs(whole(a)))
				if n < (*fx.M)(nil).Abs(a) {
					t.Fatalf("length of%s = %d, less than a component", text(v...), n)
				}
			}
			if whole(n).Cmp(sum) > 0 {
				t.Fatalf("length of%s = %d, greater than the sum", text(v...), n)
			}
		})
	}
}

// Promise 3.4: a unit vector is 1 long, up to 2 parts, for what is at least 1 long; below that a length that is rounded down by up to a part is less exact, by 1 to its parts.
func TestUnitLength(t *testing.T) {
	for sides := 2; sides <= 3; sides++ {
		vectors(sides, func(v []api.Fx) {
			m := &fx.M{}
			n := length(m, v...)
			if n == 0 || m.Over {
				return
			}
			d := unit(m, v...)
			u := length(m, d.sides[:sides]...)
			if off := u - one; off < -2 || off > 2+one/n || m.Over {
				t.Fatalf("unit of%s is%s, %d long", text(v...), text(d.sides[:sides]...), u)
			}
		})
	}
}
