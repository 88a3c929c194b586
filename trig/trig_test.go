package trig_test

import (
	"math"
	"math/big"
	"math/rand/v2"
	"testing"

	"chicane/api"
	"chicane/trig"
)

const (
	one      = api.One
	greatest = api.Fx(math.MaxInt64)
	least    = api.Fx(math.MinInt64)
	step     = api.Turn(1 << 24)
	eighth   = api.Turn(1 << 29)
	quarter  = api.Turn(1 << 30)
	half     = api.Turn(1 << 31)
)

// exact makes a number of 300 binary digits.
func exact(n float64) *big.Float { return new(big.Float).SetPrec(300).SetFloat64(n) }

// point is a place on the circle of radius 1.
type point struct{ cos, sin *big.Float }

// add tells the point of both angles together.
func (p point) add(q point) point {
	cos := new(big.Float).Mul(p.cos, q.cos)
	cos.Sub(cos, new(big.Float).Mul(p.sin, q.sin))
	sin := new(big.Float).Mul(p.sin, q.cos)
	return point{cos, sin.Add(sin, new(big.Float).Mul(p.cos, q.sin))}
}

// halved tells the point of half an angle of at most half a turn.
func (p point) halved() point {
	root := func(n *big.Float) *big.Float {
		n.Quo(n, exact(2))
		return n.Sqrt(n)
	}
	return point{root(new(big.Float).Add(exact(1), p.cos)), root(new(big.Float).Sub(exact(1), p.cos))}
}

// nearest rounds 2^32 times a number that is at least 0 to an integer.
func nearest(n *big.Float) api.Fx {
	scaled := new(big.Float).SetMantExp(n, api.Bits)
	rounded, _ := scaled.Add(scaled, exact(0.5)).Int64()
	return api.Fx(rounded)
}

// table tells S(0) to S(64) by another reckoning than the package's own: a quarter turn halved, and added to itself.
func table() []api.Fx {
	part := point{exact(0), exact(1)}
	for range 6 {
		part = part.halved()
	}
	list, p := []api.Fx{}, point{exact(1), exact(0)}
	for range 65 {
		list = append(list, nearest(p.sin))
		p = p.add(part)
	}
	return list
}

// reckoner tells by the table of the other reckoning what the calls should tell.
type reckoner []api.Fx

// sin tells a sine, rounded by the floor first, and then up where that is nearer, or even.
func (s reckoner) sin(t api.Turn) api.Fx {
	q, r := t/quarter, int64(t%quarter)
	if q == 1 || q == 3 {
		r = int64(quarter) - r
	}
	i, f := r/int64(step), r%int64(step)
	n := s[i]
	if f != 0 {
		exact := int64(s[i+1]-s[i]) * f
		up, rest := exact/int64(step), exact%int64(step)
		if 2*rest > int64(step) || 2*rest == int64(step) && up%2 == 1 {
			up++
		}
		n += api.Fx(up)
	}
	if q >= 2 {
		return -n
	}
	return n
}

// reaches tells by exact products whether a vector in the first quarter is turned as far as an angle there.
func (s reckoner) reaches(x, y api.Fx, t api.Turn) bool {
	up := new(big.Int).Mul(big.NewInt(int64(y)), big.NewInt(int64(s.sin(t+quarter))))
	return up.Cmp(new(big.Int).Mul(big.NewInt(int64(x)), big.NewInt(int64(s.sin(t))))) >= 0
}

// towards tells a direction: turned into the first quarter, it is found bit by bit.
func (s reckoner) towards(x, y api.Fx) api.Turn {
	if x == 0 && y == 0 {
		return 0
	}
	x, y = max(x, -greatest), max(y, -greatest)
	turned := api.Turn(0)
	for x < 0 || y < 0 {
		x, y = y, -x
		turned += quarter
	}
	t := api.Turn(0)
	for bit := quarter; bit > 0; bit /= 2 {
		if next := t + bit; next <= quarter && s.reaches(x, y, next) {
			t = next
		}
	}
	return turned + t
}

// turns are the quarters, the entries' places, the places between them that are rounded from a half, their neighbours, and some others.
func turns(s reckoner) []api.Turn {
	list := []api.Turn{}
	for k := range api.Turn(256) {
		list = append(list, k*step-2, k*step-1, k*step, k*step+1, k*step+2, k*step+step/2)
	}
	for k := range 64 {
		// Times an odd number of halves of a part, an odd difference makes a half: as many as the difference has factors of 2.
		f := step / 2
		for d := s[k+1] - s[k]; d%2 == 0; d /= 2 {
			f /= 2
		}
		for n := api.Turn(1); n < 8; n += 2 {
			if t := n * f; t < step {
				t += api.Turn(k) * step
				list = append(list, t, half-t, half+t, -t)
			}
		}
	}
	r := rand.New(rand.NewPCG(11, 4))
	for range 20000 {
		list = append(list, api.Turn(r.Uint32()))
	}
	return list
}

// vectors calls with vectors whose components are edges, and with some of every length and slope.
func vectors(call func(x, y api.Fx)) {
	edges := []api.Fx{0, 1, 2, 3, 6, 7, one - 1, one, one + 1, 3 * one, 3037000500, 1<<62 - 1, 1 << 62, greatest - 1, greatest}
	for _, n := range edges[1:] {
		edges = append(edges, -n)
	}
	edges = append(edges, least)
	for _, x := range edges {
		for _, y := range edges {
			call(x, y)
		}
	}
	r := rand.New(rand.NewPCG(11, 5))
	for range 5000 {
		x, y := api.Fx(int64(r.Uint64())>>r.IntN(63)), api.Fx(int64(r.Uint64())>>r.IntN(63))
		call(x, y)
		call(x, x+y>>r.IntN(40)) // near an eighth of a turn
	}
}

// Promise 4.1: Table.
func TestTable(t *testing.T) {
	want := table()
	for k, n := range want {
		if got := trig.Table(k); got != n {
			t.Errorf("Table(%d) = %d, not %d", k, got, n)
		}
	}
	for k, n := range map[int]api.Fx{0: 0, 1: 105403774, 32: 3037000500, 33: 3110617535, 63: 4293673732, 64: one} {
		if want[k] != n {
			t.Errorf("the test reckons %d for entry %d, not %d", want[k], k, n)
		}
	}
}

// Promise 4.1: 0 beyond the table's ends.
func TestTableBounds(t *testing.T) {
	for _, k := range []int{-1, -2, -32, -64, 65, 66, 96, 128, 256, 1 << 32, math.MaxInt, math.MinInt, math.MinInt + 64} {
		if got := trig.Table(k); got != 0 {
			t.Errorf("Table(%d) = %d, not 0", k, got)
		}
	}
}

// Promise 4.2: Sin and Cos.
func TestSin(t *testing.T) {
	s := reckoner(table())
	for _, turn := range turns(s) {
		if got, want := trig.Sin(turn), s.sin(turn); got != want {
			t.Errorf("Sin(%d) = %d, not %d", turn, got, want)
		}
		if got, want := trig.Cos(turn), s.sin(turn+quarter); got != want {
			t.Errorf("Cos(%d) = %d, not %d", turn, got, want)
		}
	}
	for _, c := range []struct {
		turn     api.Turn
		sin, cos api.Fx
	}{
		{0, 0, one},
		{eighth, 3037000500, 3037000500},
		{quarter, one, 0},
		{3 * eighth, 3037000500, -3037000500},
		{half, 0, -one},
		{3 * quarter, -one, 0},
		{7 * eighth, -3037000500, 3037000500},
		{1, 6, one}, // 105403774 / 2^24 is 6.28, and 1293564 / 2^24 less than a half
		{quarter - 1, one, 6},
		{quarter + 1, one, -6},
		{half - 1, 6, -one},
		{half + 1, -6, -one},
		{math.MaxUint32, -6, one},
		{step, 105403774, 4293673732},
		{step + step/2, 158073916, 4291733776},   // the sine rises by 105340283: its half goes up to the even integer
		{3*step + step/2, 368468903, 4278807875}, // 105023017: down, though the sum is odd then
		{half + 3*step + step/2, -368468903, -4278807875},
	} {
		if sin, cos := trig.Sin(c.turn), trig.Cos(c.turn); sin != c.sin || cos != c.cos {
			t.Errorf("sine and cosine of %d are %d and %d, not %d and %d", c.turn, sin, cos, c.sin, c.cos)
		}
	}
}

// Promise 4.3: Towards.
func TestTowards(t *testing.T) {
	s := reckoner(table())
	vectors(func(x, y api.Fx) {
		if got, want := trig.Towards(x, y), s.towards(x, y); got != want {
			t.Fatalf("Towards(%d, %d) = %d, not %d", x, y, got, want)
		}
	})
	for _, c := range []struct {
		x, y api.Fx
		want api.Turn
	}{
		{0, 0, 0},
		{one, 0, 0},
		{one, one, eighth},
		{0, one, quarter},
		{-one, one, 3 * eighth},
		{-one, 0, half},
		{-one, -one, 5 * eighth},
		{0, -one, 3 * quarter},
		{one, -one, 7 * eighth},
		{1, 0, 0},
		{1, 1, eighth},
		{0, 1, quarter},
		{-1, 0, half},
		{0, -1, 3 * quarter},
		{one, 6, 1}, // the sine of a part of a turn is 6 parts
		{one, 5, 0},
		{one, -6, math.MaxUint32},
		{one, -5, math.MaxUint32}, // from a quarter turn down, 1 part of it is as far as its cosine allows
		{5, one, quarter - 1},
		{6, one, quarter - 1},
		{7, one, quarter - 2},
		{greatest, 1, 0},
		{1, greatest, quarter - 1},
		{-1, greatest, quarter},
		{greatest, -1, math.MaxUint32},
	} {
		if got := trig.Towards(c.x, c.y); got != c.want {
			t.Errorf("Towards(%d, %d) = %d, not %d", c.x, c.y, got, c.want)
		}
	}
}

// Promise 4.3: the least number counts as the one above it.
func TestTowardsLeast(t *testing.T) {
	for _, c := range []struct {
		x, y api.Fx
		want api.Turn
	}{
		{least, 0, half},
		{0, least, 3 * quarter},
		{least, least, 5 * eighth},
		{least, greatest, 3 * eighth},
		{greatest, least, 7 * eighth},
		{least, -greatest, 5 * eighth},
		{-greatest, least, 5 * eighth},
	} {
		if got := trig.Towards(c.x, c.y); got != c.want {
			t.Errorf("Towards(%d, %d) = %d, not %d", c.x, c.y, got, c.want)
		}
	}
	for _, n := range []api.Fx{0, 1, -1, one, -one, greatest, -greatest, least} {
		if got, want := trig.Towards(least, n), trig.Towards(-greatest, n); got != want {
			t.Errorf("Towards(%d, %d) = %d, not %d", least, n, got, want)
		}
		if got, want := trig.Towards(n, least), trig.Towards(n, -greatest); got != want {
			t.Errorf("Towards(%d, %d) = %d, not %d", n, least, got, want)
		}
	}
}

// Promise 4.3: the vector of an angle has that direction, and so have its multiples.
func TestTowardsBack(t *testing.T) {
	for _, turn := range turns(table()) {
		x, y := trig.Cos(turn), trig.Sin(turn)
		for _, times := range []api.Fx{1, 3, 1 << 30} {
			if got := trig.Towards(x*times, y*times); got != turn {
				t.Fatalf("Towards(%d, %d) = %d, not %d", x*times, y*times, got, turn)
			}
		}
	}
}

// Promise 4.4: sines are from -1 to 1, and have the opposite sign half a turn later.
func TestSinHalfTurn(t *testing.T) {
	for _, turn := range turns(table()) {
		for _, call := range []func(api.Turn) api.Fx{trig.Sin, trig.Cos} {
			n, later := call(turn), call(turn+half)
			if n < -one || n > one || later != -n {
				t.Fatalf("at %d there is %d, and %d half a turn later", turn, n, later)
			}
		}
	}
}

// Promise 4.4: the directions of opposite vectors differ by half a turn; the vector 0 has no opposite but itself.
func TestTowardsOpposite(t *testing.T) {
	vectors(func(x, y api.Fx) {
		if x == 0 && y == 0 || x == least || y == least {
			return
		}
		if got, back := trig.Towards(x, y), trig.Towards(-x, -y); got-back != half {
			t.Fatalf("Towards(%d, %d) = %d, and its opposite's is %d", x, y, got, back)
		}
	})
}
