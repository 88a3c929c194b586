package ray_test

import (
	"math"
	"math/big"
	"math/rand/v2"
	"testing"

	"chicane/api"
	"chicane/field"
	"chicane/fx"
	"chicane/ray"
)

const (
	one      = api.One
	half     = api.One / 2
	quarter  = api.One / 4
	most     = api.MaxExtent
	high     = api.MaxHeight
	top      = api.MaxHeight / 2
	longest  = 64 * api.One
	greatest = api.Fx(math.MaxInt64)
	least    = api.Fx(math.MinInt64)
	slant    = 3037000500 // 1 divided by the root of 2, which is rounded down
)

var down = api.V3{Z: -one}

// at makes a place or a direction.
func at(x, y, z api.Fx) api.V3 { return api.V3{X: x, Y: y, Z: z} }

// whole makes numbers of integers.
func whole(n ...api.Fx) []api.Fx {
	l := []api.Fx{}
	for _, v := range n {
		l = append(l, v*one)
	}
	return l
}

// level makes a valid track of so many cells of the side 4 from (0, 0) on, all of them at the height 0, of three kinds.
func level(cols, rows int) api.Track {
	t := api.Track{
		Cell: 4 * one, Cols: cols, Rows: rows,
		Heights: make([]api.Fx, (cols+1)*(rows+1)), Ground: make([]int, cols*rows), Kinds: make([]api.Kind, 3),
	}
	for i := range t.Ground {
		t.Ground[i] = (i + i/cols) % len(t.Kinds)
	}
	return t
}

// raised makes a valid track of so many cells, with a height for each corner's column and row.
func raised(cols, rows int, height func(c, r int) api.Fx) api.Track {
	t := level(cols, rows)
	for i := range t.Heights {
		t.Heights[i] = height(i%(cols+1), i/(cols+1))
	}
	return t
}

// example is the chapter's track: the second one of two cells rises by 1/2 along X.
func example() api.Track {
	return raised(2, 1, func(c, r int) api.Fx { return []api.Fx{0, 0, 2 * one}[c] })
}

// ridges makes a track that is level along one axis, with the heights 0, 4, 0, 4, 0 and so on along the other one.
func ridges(cols, rows int, along func(c, r int) int) api.Track {
	return raised(cols, rows, func(c, r int) api.Fx { return api.Fx(along(c, r)%2) * 4 * one })
}

// drawer draws by a fixed rule.
type drawer struct{ *rand.Rand }

func draw(seed uint64) drawer { return drawer{rand.New(rand.NewPCG(13, seed))} }

// number draws a number from low to high, quite often one of both.
func (d drawer) number(low, high api.Fx) api.Fx {
	switch d.IntN(8) {
	case 0:
		return low
	case 1:
		return high
	}
	return low + api.Fx(d.Int64N(int64(high-low)+1))
}

// heights draws those of a valid track, each as near to its neighbours as it must be, and at most so far from 0.
func (d drawer) heights(t api.Track, far api.Fx) []api.Fx {
	l := []api.Fx{}
	row := t.Cols + 1
	for i := range row * (t.Rows + 1) {
		low, high := -far, far
		if i%row > 0 {
			low, high = max(low, l[i-1]-t.Cell), min(high, l[i-1]+t.Cell)
		}
		if i >= row {
			low, high = max(low, l[i-row]-t.Cell), min(high, l[i-row]+t.Cell)
		}
		l = append(l, d.number(low, high))
	}
	return l
}

// track draws a valid track of at most so many columns and rows: steep or flat, anywhere or about 0, with sides of any length or of a power of 2.
func (d drawer) track(largest int) api.Track {
	t := api.Track{Cell: d.number(4*one, 64*one), Cols: 1 + d.IntN(largest), Rows: 1 + d.IntN(largest)}
	if d.IntN(2) == 0 {
		t.Cell = 4 * one << d.IntN(3)
	}
	t.Corner = api.V2{X: d.number(-most/2, most/2), Y: d.number(-most/2, most/2)}
	if d.IntN(2) == 0 {
		t.Corner = api.V2{X: one * api.Fx(d.IntN(9)-4), Y: one * api.Fx(d.IntN(9)-4)}
	}
	t.Heights = d.heights(t, []api.Fx{top, 8 * one, one}[d.IntN(3)])
	if t.Cell%one == 0 && d.IntN(2) == 0 {
		for i := range t.Heights {
			t.Heights[i] &^= one - 1
		}
	}
	for range 1 + d.IntN(api.MaxKinds) {
		t.Kinds = append(t.Kinds, api.Kind{Grip: d.number(0, 2*one), Drag: d.number(0, one), Off: d.IntN(2) == 0})
	}
	for range t.Cols * t.Rows {
		t.Ground = append(t.Ground, d.IntN(len(t.Kinds)))
	}
	return t
}

// coordinate draws one of a place about a field's side that begins somewhere: in it, at cells' ends, about it, or anywhere that may be.
func (d drawer) coordinate(begins, side api.Fx, cells int) api.Fx {
	n := begins + d.number(0, api.Fx(cells)*side)
	switch d.IntN(8) {
	case 0:
		n = begins + api.Fx(d.IntN(cells+1))*side + api.Fx(d.IntN(3)-1)
	case 1:
		n = begins + half*api.Fx(d.IntN(2*cells*int(side/one)+1))
	case 2:
		n = begins + d.number(-99*one, api.Fx(cells)*side+99*one)
	case 3:
		n = d.number(-most, most)
	}
	return max(-most, min(most, n))
}

// part draws a component of a direction.
func (d drawer) part() api.Fx {
	switch d.IntN(6) {
	case 0:
		return 0
	case 1:
		return quarter * api.Fx(d.IntN(9)-4)
	case 2:
		return api.Fx(d.IntN(7) - 3)
	}
	return d.number(-one, one)
}

// ray draws a valid ray that often goes down to the ground of a track, from above it, from it, or from below it.
func (d drawer) ray(g ground) (o, dir api.V3, long api.Fx) {
	o = at(d.coordinate(g.Corner.X, g.Cell, g.Cols), d.coordinate(g.Corner.Y, g.Cell, g.Rows), 0)
	o.Z = g.height(o.X, o.Y)
	switch d.IntN(8) {
	case 0:
	case 1:
		o.Z += api.Fx(d.IntN(7) - 3)
	case 2:
		o.Z += d.number(-99*one, 99*one)
	case 3:
		o.Z = d.number(-high, high)
	default:
		o.Z += d.number(0, 12*one)
	}
	o.Z = max(-high, min(high, o.Z))
	dir = at(d.part(), d.part(), d.part())
	if d.IntN(3) > 0 {
		dir.Z = -d.number(0, one)
	}
	long = longest
	if d.IntN(2) == 0 {
		long = d.number(0, longest)
	}
	return o, dir, long
}

// steps reckons in big integers, and notes what does not fit: another reckoning than fx's own.
type steps struct{ over bool }

func (s *steps) fit(n *big.Int) api.Fx {
	if n.IsInt64() {
		return api.Fx(n.Int64())
	}
	s.over = true
	if n.Sign() > 0 {
		return greatest
	}
	return least
}

func (s *steps) sum(a, b api.Fx) api.Fx {
	return s.fit(new(big.Int).Add(big.NewInt(int64(a)), big.NewInt(int64(b))))
}

func (s *steps) difference(a, b api.Fx) api.Fx {
	return s.fit(new(big.Int).Sub(big.NewInt(int64(a)), big.NewInt(int64(b))))
}

// nearest is n / d, for a d above 0, to the nearest number, and to the even one of two that are equally near.
func (s *steps) nearest(n, d *big.Int) api.Fx {
	below, rest := new(big.Int).DivMod(n, d, new(big.Int))
	order := rest.Lsh(rest, 1).Cmp(d)
	if order > 0 || order == 0 && below.Bit(0) == 1 {
		below.Add(below, big.NewInt(1))
	}
	return s.fit(below)
}

func (s *steps) product(a, b api.Fx) api.Fx {
	return s.nearest(new(big.Int).Mul(big.NewInt(int64(a)), big.NewInt(int64(b))), big.NewInt(int64(one)))
}

func (s *steps) quotient(a, b api.Fx) api.Fx {
	return s.nearest(new(big.Int).Lsh(big.NewInt(int64(a)), 32), big.NewInt(int64(b)))
}

// unit is a vector divided by its length, whose exact square's root is rounded down.
func (s *steps) unit(x, y, z api.Fx) api.V3 {
	long := new(big.Int)
	for _, c := range []api.Fx{x, y, z} {
		n := big.NewInt(int64(c))
		long.Add(long, n.Mul(n, n))
	}
	far := s.fit(long.Sqrt(long))
	return at(s.quotient(x, far), s.quotient(y, far), s.quotient(z, far))
}

// point is o plus dir times far.
func (s *steps) point(o, dir api.V3, far api.Fx) api.V3 {
	return at(s.sum(o.X, s.product(dir.X, far)), s.sum(o.Y, s.product(dir.Y, far)), s.sum(o.Z, s.product(dir.Z, far)))
}

// ground is another reckoning of a valid track's rays, which asks all of its cells.
type ground struct{ api.Track }

// axis is the cell of a coordinate and the offset in it.
func (g ground) axis(n, begins api.Fx, cells int) (int, api.Fx) {
	way := max(-most, min(most, n)) - begins
	cell := int(math.Floor(float64(way) / float64(g.Cell))) // nearly: what is wrong at a cell's end is mended below
	for api.Fx(cell)*g.Cell > way {
		cell--
	}
	for api.Fx(cell+1)*g.Cell <= way {
		cell++
	}
	cell = max(0, min(cells-1, cell))
	return cell, way - api.Fx(cell)*g.Cell
}

// triangle is the triangle of a place.
func (g ground) triangle(x, y api.Fx) (c, r int, upper bool) {
	c, dx := g.axis(x, g.Corner.X, g.Cols)
	r, dy := g.axis(y, g.Corner.Y, g.Rows)
	return c, r, dx < dy
}

func (g ground) corner(c, r int) api.Fx { return g.Heights[r*(g.Cols+1)+c] }

func (g ground) slopes(c, r int, upper bool) (api.Fx, api.Fx) {
	h00, h10, h01, h11 := g.corner(c, r), g.corner(c+1, r), g.corner(c, r+1), g.corner(c+1, r+1)
	s := &steps{}
	if upper {
		return s.quotient(h11-h01, g.Cell), s.quotient(h01-h00, g.Cell)
	}
	return s.quotient(h10-h00, g.Cell), s.quotient(h11-h10, g.Cell)
}

// plane is the height of a triangle's plane at a place anywhere.
func (g ground) plane(c, r int, upper bool, x, y api.Fx) api.Fx {
	s := &steps{}
	a, b := g.slopes(c, r, upper)
	dx, dy := x-g.Corner.X-api.Fx(c)*g.Cell, y-g.Corner.Y-api.Fx(r)*g.Cell
	return s.sum(s.sum(g.corner(c, r), s.product(a, dx)), s.product(b, dy))
}

// height is the height of the ground at a place within the bounds.
func (g ground) height(x, y api.Fx) api.Fx {
	c, r, upper := g.triangle(x, y)
	return g.plane(c, r, upper, x, y)
}

// meets is the distance at which a valid ray meets a triangle.
func (g ground) meets(c, r int, upper bool, o, dir api.V3, long api.Fx) (api.Fx, bool) {
	s := &steps{}
	a, b := g.slopes(c, r, upper)
	steep := s.difference(s.difference(dir.Z, s.product(a, dir.X)), s.product(b, dir.Y))
	if steep >= 0 {
		return 0, false
	}
	far := api.Fx(0)
	if over := s.difference(o.Z, g.plane(c, r, upper, o.X, o.Y)); over > 0 {
		far = s.quotient(over, -steep)
	}
	if s.over || far > long {
		return 0, false
	}
	p := s.point(o, dir, far)
	col, row, above := g.triangle(p.X, p.Y)
	return far, col == c && row == r && above == upper
}

// valid tells whether a ray is.
func valid(o, dir api.V3, long api.Fx) bool {
	for _, c := range []struct{ n, bound api.Fx }{{o.X, most}, {o.Y, most}, {o.Z, high}, {dir.X, one}, {dir.Y, one}, {dir.Z, one}} {
		if big.NewInt(int64(c.n)).CmpAbs(big.NewInt(int64(c.bound))) > 0 {
			return false
		}
	}
	return long >= 0 && long <= longest
}

// cast asks all triangles for the first one of those that are met nearest.
func (g ground) cast(o, dir api.V3, long api.Fx) (touch api.Touch, ok bool) {
	if !valid(o, dir, long) {
		return api.Touch{}, false
	}
	for r := range g.Rows {
		for c := range g.Cols {
			for _, upper := range []bool{false, true} {
				far, met := g.meets(c, r, upper, o, dir, long)
				if !met || ok && far >= touch.Far {
					continue
				}
				a, b := g.slopes(c, r, upper)
				touch = api.Touch{Far: far, Normal: (&steps{}).unit(-a, -b, one), Kind: g.Ground[r*g.Cols+c]}
				ok = true
			}
		}
	}
	return touch, ok
}

// made makes a field of a valid track.
func made(t *testing.T, tr api.Track) *field.Field {
	t.Helper()
	f, err := field.New(tr)
	if err != api.OK {
		t.Fatalf("field.New tells %d", err)
	}
	return f
}

// holdCast holds a ray with an M that is new, with one that has noted something already, and with none; nothing may be noted, and nothing forgotten.
func holdCast(t *testing.T, f *field.Field, o, dir api.V3, long api.Fx, want api.Touch, met bool) {
	t.Helper()
	fresh, old := &fx.M{}, &fx.M{Over: true}
	for _, m := range []*fx.M{fresh, old, nil} {
		if got, ok := ray.Cast(m, f, o, dir, long); got != want || ok != met {
			t.Fatalf("Cast(%v, %v, %d) = %v, %v, not %v, %v", o, dir, long, got, ok, want, met)
		}
	}
	if fresh.Over || !old.Over {
		t.Fatalf("Over is %v, and %v where it was true, after Cast(%v, %v, %d)", fresh.Over, old.Over, o, dir, long)
	}
}

// holdMet holds a ray that meets the ground.
func holdMet(t *testing.T, f *field.Field, o, dir api.V3, long, far api.Fx, normal api.V3, kind int) {
	t.Helper()
	holdCast(t, f, o, dir, long, api.Touch{Far: far, Normal: normal, Kind: kind}, true)
}

// holdFar holds how far off a ray meets the ground, and that it does so with just that length, but with no part less.
func holdFar(t *testing.T, f *field.Field, o, dir api.V3, far api.Fx, normal api.V3, kind int) {
	t.Helper()
	holdMet(t, f, o, dir, longest, far, normal, kind)
	holdMet(t, f, o, dir, far, far, normal, kind)
	holdNone(t, f, o, dir, far-1)
	if far < longest {
		holdMet(t, f, o, dir, far+1, far, normal, kind)
	}
}

// holdNone holds a ray that does not meet the ground.
func holdNone(t *testing.T, f *field.Field, o, dir api.V3, long api.Fx) {
	t.Helper()
	holdCast(t, f, o, dir, long, api.Touch{}, false)
}

// holdReckoned holds a ray as the other reckoning tells it, and tells whether it meets the ground.
func holdReckoned(t *testing.T, f *field.Field, g ground, o, dir api.V3, long api.Fx) bool {
	t.Helper()
	want, ok := g.cast(o, dir, long)
	holdCast(t, f, o, dir, long, want, ok)
	return ok
}

// Promise 13.1: the chapter's example, with just the length it needs and one part less.
func TestExample(t *testing.T) {
	f := made(t, example())
	normal := (&steps{}).unit(-half, 0, one)
	holdFar(t, f, at(2*one, one, 2*one), at(one, 0, -half), 3*one, normal, 1)
	for _, long := range []api.Fx{0, 1, one, 2 * one, 3*one - 1} {
		holdNone(t, f, at(2*one, one, 2*one), at(one, 0, -half), long)
	}
	for _, long := range []api.Fx{3 * one, 3*one + 1, 4 * one, longest - 1, longest} {
		holdMet(t, f, at(2*one, one, 2*one), at(one, 0, -half), long, 3*one, normal, 1)
	}
}

// Promise 13.1: a vertical ray downward from 3 above level ground.
func TestLevel(t *testing.T) {
	f := made(t, level(3, 2))
	up := at(0, 0, one)
	holdFar(t, f, at(one, 2*one, 3*one), down, 3*one, up, 0)
	holdFar(t, f, at(9*one, 2*one, 3*one), down, 3*one, up, 2)
	holdFar(t, f, at(one, 6*one, 3*one), down, 3*one, up, 1)
	holdFar(t, f, at(one, one, 3*one), at(0, 0, -half), 6*one, up, 0)
	holdFar(t, f, at(one, one, longest), down, longest, up, 0)
	holdNone(t, f, at(one, one, longest+1), down, longest)
	// Across the ground into another cell, along X, along Y and along both, either way.
	holdFar(t, f, at(one, one, 5*one), at(one, 0, -one), 5*one, up, 1)
	holdFar(t, f, at(11*one, one, 5*one), at(-one, 0, -one), 5*one, up, 1)
	holdFar(t, f, at(one, one, 5*one), at(0, one, -one), 5*one, up, 1)
	holdFar(t, f, at(one, 7*one, 5*one), at(0, -one, -one), 5*one, up, 0)
	holdFar(t, f, at(one, one, 5*one), at(one, one, -one), 5*one, up, 2)
	holdFar(t, f, at(11*one, 7*one, 5*one), at(-one, -one, -one), 5*one, up, 1)
}

// Promise 13.1: o is within its bounds, each coordinate by itself, either way. The ground rises with 1 for 1 beyond its rectangle, so that it is as high and as low as a ray may begin.
func TestPlaceBounds(t *testing.T) {
	f := made(t, raised(1, 1, func(c, r int) api.Fx { return api.Fx(c) * 4 * one }))
	normal := at(-slant, 0, slant)
	holdMet(t, f, at(high-9*one, 0, high), down, longest, 9*one, normal, 0)
	holdNone(t, f, at(high-9*one, 0, high+1), down, longest)
	holdMet(t, f, at(0, 0, -high), down, longest, 0, normal, 0)
	holdNone(t, f, at(0, 0, -high-1), down, longest)
	holdMet(t, f, at(-high, 0, -high), down, 0, 0, normal, 0)
	holdNone(t, f, at(-high, 0, -high-1), down, longest)
	holdMet(t, f, at(most, 0, high), down, 0, 0, normal, 0)
	holdNone(t, f, at(most+1, 0, high), down, longest)
	plain := made(t, level(1, 1))
	up := at(0, 0, one)
	for _, n := range []api.Fx{most, most - 1, -most, 1 - most} {
		for _, k := range []api.Fx{0, most, -most} {
			holdMet(t, plain, at(n, k, one), down, longest, one, up, 0)
			holdMet(t, plain, at(k, n, one), down, longest, one, up, 0)
		}
	}
	for _, n := range []api.Fx{most + 1, -most - 1, most + one, -most - one, 2 * most, least, least + 1, greatest, 1 << 62, -1 << 62} {
		for _, k := range []api.Fx{0, most, -most} {
			holdNone(t, plain, at(n, k, one), down, longest)
			holdNone(t, plain, at(k, n, one), down, longest)
		}
		holdNone(t, plain, at(one, one, n), down, longest)
	}
	for _, n := range []api.Fx{-high, 1 - high, -top - 1, -1, 0} {
		holdMet(t, plain, at(one, one, n), down, 0, 0, up, 0)
	}
	for _, n := range []api.Fx{-high - 1, -high - one, -2 * high, least, least + 1} {
		holdNone(t, plain, at(one, one, n), down, longest)
	}
	for _, n := range []api.Fx{high, high + 1, greatest} {
		holdNone(t, plain, at(one, one, n), down, longest)
	}
}

// Promise 13.1: each component of d is within its bounds, either way.
func TestDirectionBounds(t *testing.T) {
	f := made(t, level(2, 2))
	up := at(0, 0, one)
	o := at(4*one, 4*one, one)
	for _, n := range []api.Fx{one, one - 1, -one, 1 - one, 0, 1, -1} {
		for _, k := range []api.Fx{0, one, -one} {
			for _, dir := range []api.V3{at(n, k, -one), at(k, n, -one)} {
				if !holdReckoned(t, f, ground{level(2, 2)}, o, dir, longest) {
					t.Fatalf("the ray along %v meets nothing", dir)
				}
			}
		}
	}
	holdMet(t, f, o, at(0, 0, -one), longest, one, up, 1)
	for _, n := range []api.Fx{one + 1, -one - 1, 2 * one, -2 * one, 4 * one, 1 << 62, -1 << 62, least, least + 1, greatest} {
		for _, k := range []api.Fx{0, one, -one} {
			holdNone(t, f, o, at(n, k, -one), longest)
			holdNone(t, f, o, at(k, n, -one), longest)
		}
		holdNone(t, f, o, at(0, 0, n), longest)
		holdNone(t, f, at(one, one, -one), at(0, 0, n), longest)
	}
}

// Promise 13.1: long is from 0 to 64.
func TestLongBounds(t *testing.T) {
	f := made(t, level(1, 1))
	up := at(0, 0, one)
	holdMet(t, f, at(one, one, longest), down, longest, longest, up, 0)
	holdNone(t, f, at(one, one, longest), down, longest-1)
	holdMet(t, f, at(one, one, 0), down, 0, 0, up, 0)
	holdMet(t, f, at(one, one, -one), down, 0, 0, up, 0)
	holdNone(t, f, at(one, one, 1), down, 0)
	holdMet(t, f, at(one, one, 1), down, 1, 1, up, 0)
	for _, z := range []api.Fx{-one, 0, 1, one, longest, longest + 1} {
		for _, long := range []api.Fx{-1, -2, -one, least, least + 1, longest + 1, longest + one, 2 * longest, 1 << 62, greatest - 1, greatest} {
			holdNone(t, f, at(one, one, z), down, long)
		}
	}
}

// Promise 13.1: rays as long and as fast as may be, over many cells in every direction, that end at a cell's beginning, and some parts ahead of it.
func TestFarthest(t *testing.T) {
	tr := level(40, 40)
	for i := range tr.Ground {
		tr.Ground[i] = (i%40 + i/40*2) % 3
	}
	f := made(t, tr)
	for x := -1; x <= 1; x++ {
		for y := -1; y <= 1; y++ {
			dir := at(api.Fx(x)*one, api.Fx(y)*one, -one/8)
			kind := (20 + 16*x + 2*(20+16*y)) % 3
			holdFar(t, f, at(80*one, 80*one, 8*one), dir, longest, at(0, 0, one), kind)
			kind = (20 + 16*x - max(x, 0) + 2*(20+16*y-max(y, 0))) % 3
			holdFar(t, f, at(80*one, 80*one, 8*one-1), dir, longest-8, at(0, 0, one), kind)
			holdNone(t, f, at(80*one, 80*one, 8*one+1), dir, longest)
		}
	}
	// A valley of 32 cells, whose slopes are met shortly ahead of 64, from places shortly ahead of its ends at 63.
	slopes := func(n int) api.Fx {
		if n < 4 || n > 36 {
			return 4 * one
		}
		return 0
	}
	east := made(t, raised(40, 1, func(c, r int) api.Fx { return slopes(c) }))
	north := made(t, raised(1, 40, func(c, r int) api.Fx { return slopes(r) }))
	const z, far = 131 * one / 16, 127 * half
	holdFar(t, east, at(323*quarter, one, z), at(one, 0, -one/8), far, at(-slant, 0, slant), 0)
	holdFar(t, east, at(317*quarter, one, z), at(-one, 0, -one/8), far, at(slant, 0, slant), 0)
	holdFar(t, north, at(one, 323*quarter, z), at(0, one, -one/8), far, at(0, -slant, slant), 0)
	holdFar(t, north, at(one, 317*quarter, z), at(0, -one, -one/8), far, at(0, slant, slant), 0)
}

// Promise 13.1: rays that go up, along and down, over level ground, from above it, from it and from below it.
func TestUpAlongDown(t *testing.T) {
	f := made(t, level(8, 8))
	up := at(0, 0, one)
	for _, z := range []api.Fx{-high, -9 * one, -1, 0, 1, one, high} {
		for _, way := range []api.Fx{-one, -half, -1, 0, 1, half, one} {
			for _, rise := range []api.Fx{0, 1, half, one} {
				holdNone(t, f, at(16*one, 16*one, z), at(way, -way, rise), longest)
				holdNone(t, f, at(16*one, 16*one, z), at(0, way, rise), longest)
			}
			if z <= 0 {
				holdFar(t, f, at(17*one, 18*one, z), at(way, -way, -one), 0, up, 1)
				holdFar(t, f, at(17*one, 18*one, z), at(way, 0, -1), 0, up, 1)
			}
		}
	}
}

// Promise 13.1: along a slope a ray meets nothing, from wherever it begins; one part further down it does.
func TestAlongSlopes(t *testing.T) {
	for _, way := range []api.Fx{1, -1} {
		east := raised(4, 4, func(c, r int) api.Fx { return way * api.Fx(c) * 2 * one })
		north := raised(4, 4, func(c, r int) api.Fx { return way * api.Fx(r) * 2 * one })
		both := raised(4, 4, func(c, r int) api.Fx { return way * api.Fx(c+r) * 2 * one })
		for _, c := range []struct {
			tr    api.Track
			x, y  api.Fx // the direction
			slope api.Fx // of the ground in this direction
		}{
			{east, one, 0, half}, {east, -one, 0, -half}, {east, 0, one, 0}, {east, half, one, quarter},
			{north, 0, one, half}, {north, 0, -one, -half}, {north, one, 0, 0}, {north, one, half, quarter},
			{both, one, one, one}, {both, one, -one, 0}, {both, -one, half, -quarter}, {both, -half, 0, -quarter},
		} {
			f, g := made(t, c.tr), ground{c.tr}
			o := at(9*one, 9*one, g.height(9*one, 9*one))
			for more := api.Fx(-3); more <= 3; more++ {
				dir := at(c.x, c.y, way*c.slope+more)
				for _, z := range []api.Fx{-9 * one, -1, 0} {
					met := holdReckoned(t, f, g, at(o.X, o.Y, o.Z+z), dir, longest)
					if met != (more < 0 && valid(o, dir, 0)) {
						t.Fatalf("%d parts above the slope and %d off the ground, met is %v", more, z, met)
					}
				}
				holdNone(t, f, at(o.X, o.Y, o.Z+one), dir, longest)
			}
		}
	}
}

// Promise 13.1: above, on and below the ground, and the distance 0 from wherever below.
func TestBelow(t *testing.T) {
	tr := example()
	f := made(t, tr)
	normal := (&steps{}).unit(-half, 0, one)
	for _, n := range []api.Fx{0, 1, 2, one, 9 * one, high} {
		holdFar(t, f, at(6*one, one, one-n), down, 0, normal, 1)
		holdFar(t, f, at(6*one, one, one-n), at(one, -one, -1), 0, normal, 1)
		holdFar(t, f, at(2*one, one, -n), at(0, 0, -one/3), 0, at(0, 0, one), 0)
		holdFar(t, f, at(2*one, 3*one, -n), down, 0, at(0, 0, one), 0)
	}
	for _, n := range []api.Fx{1, 2, one, 9 * one, longest} {
		holdFar(t, f, at(6*one, one, one+n), down, n, normal, 1)
		holdFar(t, f, at(2*one, one, n), down, n, at(0, 0, one), 0)
	}
}

// Promise 13.1: a ray that begins below its own triangle, but above others, and the other way round: at the distance 0 its own one counts alone.
func TestBelowOthers(t *testing.T) {
	tr := ridges(4, 1, func(c, r int) int { return c }) // up to 4 at X 4, down to 0 at 8, up and down again
	f := made(t, tr)
	rises, falls := at(-slant, 0, slant), at(slant, 0, slant)
	holdFar(t, f, at(one, one, half), down, 0, rises, 0)
	holdFar(t, f, at(7*one, one, half), down, 0, falls, 1)
	// At (9, 1) the plane of the first cell has the height 9 and that of the last one 7; the ground has 1.
	holdFar(t, f, at(9*one, one, 2*one), down, one, rises, 2)
	holdFar(t, f, at(9*one, one, one), down, 0, rises, 2)
	// Along the valley: the planes of both cells beside it are met there, and of these the second one begins there; those of the others are above it.
	holdFar(t, f, at(8*one, one, one), at(0, one, -half), 2*one, rises, 2)
}

// Promise 13.1: the nearest one of several counts, whichever cell comes first: rays through the ridges of 16 cells, along each axis, either way.
func TestSeveral(t *testing.T) {
	east := made(t, ridges(16, 1, func(c, r int) int { return c }))
	north := made(t, ridges(1, 16, func(c, r int) int { return r }))
	const way, fall = 7 * one / 8, one / 8
	// Ahead the height is 8 - s/8 at 7s/8, and the slope of a cell that begins at n has 7s/8 - n: that is at s = 8 + n, in the cells that begin at 32, 40, 48 and 56.
	holdFar(t, east, at(0, one, 8*one), at(way, 0, -fall), 40*one, at(-slant, 0, slant), 2)
	holdFar(t, north, at(one, 0, 8*one), at(0, way, -fall), 40*one, at(0, -slant, slant), 1)
	// Back it is the same, but that the top of the ridge at 36 begins a cell, which counts, where ahead the one at 28 ends one, which does not.
	holdFar(t, east, at(64*one, one, 8*one), at(-way, 0, -fall), 32*one, at(slant, 0, slant), 0)
	holdFar(t, north, at(one, 64*one, 8*one), at(0, -way, -fall), 32*one, at(0, slant, slant), 0)
	holdFar(t, east, at(64*one, one, 8*one-1), at(-way, 0, -fall), 32*one-1, at(slant, 0, slant), 0)
	holdFar(t, east, at(64*one, one, 8*one+8), at(-way, 0, -fall), 40*one+8, at(slant, 0, slant), 1)
}

// fold is a track of one cell whose lower triangle rises along Y, and whose upper one rises along X: a ridge along the diagonal, up to 4 at its end.
func fold() api.Track {
	t := level(1, 1)
	t.Heights = whole(0, 0, 0, 4)
	return t
}

// Promise 13.1: the diagonal belongs to the lower triangle: rays that meet it, and that meet the planes of both triangles there at the same distance.
func TestDiagonal(t *testing.T) {
	f := made(t, fold())
	lower, upper := at(0, -slant, slant), at(-slant, 0, slant)
	for _, c := range []struct{ y, height api.Fx }{{0, 0}, {one, one}, {2*one - 1, 2*one - 1}, {2 * one, 2 * one}} {
		holdFar(t, f, at(2*one, c.y, 5*one), down, 5*one-c.height, lower, 0)
	}
	for _, y := range []api.Fx{2*one + 1, 3 * one, 4 * one} {
		holdFar(t, f, at(2*one, y, 5*one), down, 3*one, upper, 0)
	}
	for _, n := range []api.Fx{0, 1, one, 4*one - 1, 4 * one} {
		holdFar(t, f, at(n, n, 9*one), down, 9*one-n, lower, 0)
	}
	// Both planes are met at (2, 2): at the distance 1, and at 2.
	holdFar(t, f, at(2*one, one, 3*one), at(0, one, -one), one, lower, 0)
	holdFar(t, f, at(2*one, 3*one, 4*one), at(0, -half, -one), 2*one, lower, 0)
	holdFar(t, f, at(one, 3*one, 4*one), at(half, -half, -one), 2*one, lower, 0)
	holdFar(t, f, at(3*one, one, 3*one), at(-one, one, -one), one, lower, 0)
	// A part further up or down, and it is the one or the other.
	holdFar(t, f, at(2*one, one, 3*one-2), at(0, one, -one), one-1, lower, 0)
	holdFar(t, f, at(2*one, one, 3*one+2), at(0, one, -one), one+2, upper, 0)
	holdFar(t, f, at(2*one, 3*one, 4*one-2), at(0, -half, -one), 2*one-2, upper, 0)
	holdFar(t, f, at(2*one, 3*one, 4*one+2), at(0, -half, -one), 2*one+4, lower, 0)
	// The upper triangle is met where the place is in the lower one, and along that the ray does not go down: there is no intersection.
	holdNone(t, f, at(2*one, 3*one, 3*one), at(0, -one, -one), longest)
	holdFar(t, f, at(2*one, 3*one, 3*one-1), at(0, -one, -one), one-1, upper, 0)
}

// Promise 13.1: an edge between cells belongs to the cell that it begins: rays that meet it, and that meet the planes of both cells there at the same distance.
func TestEdges(t *testing.T) {
	east := made(t, example())
	north := made(t, raised(1, 2, func(c, r int) api.Fx { return []api.Fx{0, 0, 2 * one}[r] }))
	up := at(0, 0, one)
	risesX, risesY := (&steps{}).unit(-half, 0, one), (&steps{}).unit(0, -half, one)
	turned := func(v api.V3) api.V3 { return at(v.Y, v.X, v.Z) }
	for _, c := range []struct {
		o, dir api.V3
		far    api.Fx
		second bool
	}{
		{at(4*one, one, 3*one), down, 3 * one, true},
		{at(4*one-1, one, 3*one), down, 3 * one, false},
		{at(4*one, 0, 0), down, 0, true},
		{at(4*one, 4*one, -one), down, 0, true},
		{at(4*one-1, 4*one, -one), down, 0, false},
		{at(2*one, one, 2*one), at(one, 0, -one), 2 * one, true},
		{at(2*one, one, 2*one-1), at(one, 0, -one), 2*one - 1, false},
		{at(2*one, one, 2*one+3), at(one, 0, -one), 2*one + 2, true},
		{at(6*one, one, 2*one), at(-one, 0, -one), 2 * one, true},
		{at(6*one, one, 2*one-1), at(-one, 0, -one), 2*one - 2, true},
		{at(6*one, one, 2*one+1), at(-one, 0, -one), 2*one + 1, false},
		{at(2*one, 2*one, 2*one), at(one, one, -one), 2 * one, true},
		{at(6*one, 2*one, 2*one), at(-one, one, -one), 2 * one, true},
	} {
		normalX, normalY, kindX, kindY := up, up, 0, 0
		if c.second {
			normalX, normalY, kindX, kindY = risesX, risesY, 1, 2
		}
		holdFar(t, east, c.o, c.dir, c.far, normalX, kindX)
		holdFar(t, north, turned(c.o), turned(c.dir), c.far, normalY, kindY)
	}
}

// Promise 13.1: a plane that is met outside of its triangle is none, though it is the nearest one, or the only one.
func TestOutside(t *testing.T) {
	// A valley: down along X from 4 to 0, level for two cells, and up to 4.
	tr := raised(4, 1, func(c, r int) api.Fx { return []api.Fx{4 * one, 0, 0, 0, 4 * one}[c] })
	f := made(t, tr)
	up, falls, rises := at(0, 0, one), at(slant, 0, slant), at(-slant, 0, slant)
	// From above the middle the planes of both slopes are below the ground.
	holdFar(t, f, at(6*one, one, 5*one), down, 5*one, up, 1)
	// From above a slope the level plane is 4 below, and 5; that of the other slope is above the ray's beginning or far below.
	holdFar(t, f, at(one, one, 4*one), down, one, falls, 0)
	holdFar(t, f, at(15*one, one, 4*one), down, one, rises, 0)
	// Across the valley: the level plane is met at 16, where the slope is above it.
	holdFar(t, f, at(one, one, 8*one), at(one, 0, -half), 38*one/3+1, rises, 0)
	holdFar(t, f, at(15*one, one, 8*one), at(-one, 0, -half), 38*one/3+1, falls, 0)
	// A ridge that is passed: its planes are met behind and ahead of it.
	ridge := made(t, raised(4, 1, func(c, r int) api.Fx { return []api.Fx{0, 0, 4 * one, 0, 0}[c] }))
	holdFar(t, ridge, at(2*one, one, 8*one), at(one, 0, -half), 16*one, up, 0)
	holdFar(t, ridge, at(14*one, one, 8*one), at(-one, 0, -half), 16*one, up, 0)
	// From within the ridge up and out of it the ray meets nothing.
	holdNone(t, ridge, at(8*one, one, one), at(one, 0, 0), longest)
	holdNone(t, ridge, at(8*one, one, one), at(half, half, 1), longest)
}

// Promise 13.1: beyond the rectangle the triangles of the nearest cells go on; rays that stay beyond it, that come in, and that go out, up along the slope too.
func TestBeyond(t *testing.T) {
	f := made(t, example())
	up, rises := at(0, 0, one), (&steps{}).unit(-half, 0, one)
	holdFar(t, f, at(12*one, one, 7*one), down, 3*one, rises, 1)
	holdFar(t, f, at(12*one, -9*one, 7*one), down, 3*one, rises, 1)
	holdFar(t, f, at(12*one, 99*one, 7*one), down, 3*one, rises, 1)
	holdFar(t, f, at(-9*one, one, 3*one), down, 3*one, up, 0)
	holdFar(t, f, at(-9*one, 99*one, 3*one), down, 3*one, up, 0)
	holdFar(t, f, at(6*one, -9*one, 3*one), down, 2*one, rises, 1)
	holdFar(t, f, at(-3*one, one, 5*one), at(one, 0, -one), 5*one, up, 0)
	holdFar(t, f, at(-3*one, one, 12*one), at(one, 0, -one), 31*one/3, rises, 1)
	holdFar(t, f, at(6*one, one, 2*one), at(one, 0, quarter), 4*one, rises, 1)
	holdFar(t, f, at(14*one, one, 7*one), at(-one, 0, -one), 4*one, rises, 1)
	holdFar(t, f, at(2*one, -5*one, 3*one), at(0, one, -half), 6*one, up, 0)
	holdFar(t, f, at(2*one, 3*one, 3*one), at(0, one, -half), 6*one, up, 0)
	holdFar(t, f, at(9*one, 9*one, 0), at(one, one, -one), 0, rises, 1)
}

// Promise 13.1: places of a ray beyond MaxExtent, which Where replaces.
func TestBeyondExtent(t *testing.T) {
	plain := made(t, level(3, 2)) // of the kinds 0, 1, 2, and 1, 2, 0
	for _, c := range []struct {
		x, y api.Fx
		kind int
	}{{-1, -1, 0}, {1, -1, 2}, {-1, 1, 1}, {1, 1, 0}} {
		for _, out := range []api.Fx{1, -1} {
			holdFar(t, plain, at(c.x*most, c.y*most, 9*one), at(out*c.x*one, out*c.y*one, -one), 9*one, at(0, 0, one), c.kind)
		}
	}
	// Slopes of one part: the place (MaxExtent + 9/2, MaxExtent + 9) would be in the upper triangle, but it is replaced by one on the diagonal.
	tr := fold()
	tr.Heights[3] = 4
	f := made(t, tr)
	holdFar(t, f, at(most, most, 9*one+1<<16), at(half, one, -one), 9*one-9, at(0, -1, one), 0)
	holdFar(t, f, at(most, most, 9*one+1<<16), at(-one, half, -one), 9*one+9, at(-1, 0, one), 0)
}

// Promise 13.1: the kind and the normal of each triangle of each cell, from above each of them, up to the largest field.
func TestKindAndNormal(t *testing.T) {
	for _, s := range [][2]int{{1, 1}, {2, 1}, {1, 2}, {5, 3}, {64, 1}, {1, 64}, {64, 64}} {
		tr := raised(s[0], s[1], func(c, r int) api.Fx { return api.Fx((3*c+5*r+c*r)%8) * half })
		f, g := made(t, tr), ground{tr}
		for i, kind := range tr.Ground {
			c, r := i%tr.Cols, i/tr.Cols
			x, y := api.Fx(c)*tr.Cell, api.Fx(r)*tr.Cell
			for _, p := range []struct {
				dx, dy api.Fx
				upper  bool
			}{{3 * one, one, false}, {one, 3 * one, true}, {0, 1, true}, {1, 0, false}, {0, 0, false}, {4*one - 1, 4*one - 1, false}} {
				a, b := g.slopes(c, r, p.upper)
				height := g.plane(c, r, p.upper, x+p.dx, y+p.dy)
				holdMet(t, f, at(x+p.dx, y+p.dy, height+5*one), down, longest, 5*one, (&steps{}).unit(-a, -b, one), kind)
			}
		}
	}
}

// Promise 13.1: a normal is not rounded but for its unit, and is that of slopes as steep as may be.
func TestNormalSteep(t *testing.T) {
	f := made(t, raised(2, 2, func(c, r int) api.Fx { return api.Fx(c-r) * 4 * one }))
	normal := at(-2479700525, 2479700525, 2479700525) // 1 divided by the root of 3
	holdFar(t, f, at(5*one, 5*one, 7*one), down, 7*one, normal, 1)
	holdFar(t, f, at(one, 5*one, 0), down, 4*one, normal, 0)
	// The ground rises by 2 while the ray goes down by 1.
	holdFar(t, f, at(4*one, 4*one, 3*one), at(one, -one, -one), one, normal, 1)
}

// Promise 13.1: the distance is rounded to the nearest number, and to the even one of two that are equally near, and so is each product.
func TestRounded(t *testing.T) {
	f := made(t, raised(2, 2, func(c, r int) api.Fx { return api.Fx(c) * 4 * one }))
	normal := at(-slant, 0, slant)
	o := func(z api.Fx) api.V3 { return at(5*one, one, one+4*one+z) }
	for _, c := range []struct{ over, far api.Fx }{{0, 0}, {1, 0}, {2, 1}, {3, 2}, {4, 2}, {5, 2}, {6, 3}, {7, 4}, {9, 4}, {11, 6}} {
		holdFar(t, f, o(c.over), at(one, 0, -one), c.far, normal, 1) // 2 are lost for each 1
	}
	for _, c := range []struct{ over, far api.Fx }{{1, 1}, {2, 1}, {3, 2}, {4, 3}, {5, 3}, {6, 4}, {one, 2863311531}} {
		holdFar(t, f, o(c.over), at(half, 0, -one), c.far, normal, 1) // 3/2 are lost for each 1
	}
	// The slope 1/4 times 1, 2, 3, 5, 6 and 7 parts of the direction is 0, 0, 1, 1, 2 and 2 parts, along X, along Y, and along both by itself.
	east := made(t, raised(1, 1, func(c, r int) api.Fx { return api.Fx(c) * one }))
	north := made(t, raised(1, 1, func(c, r int) api.Fx { return api.Fx(r) * one }))
	both := made(t, raised(1, 1, func(c, r int) api.Fx { return api.Fx(c+r) * one }))
	for _, c := range []struct{ part, lost api.Fx }{{1, 0}, {2, 0}, {3, 1}, {5, 1}, {6, 2}, {7, 2}, {9, 2}, {10, 2}, {11, 3}} {
		holdSteep(t, east, at(c.part, 0, -1), c.lost, c.part+1)
		holdSteep(t, north, at(0, c.part, -1), c.lost, c.part+1)
		holdSteep(t, both, at(c.part, c.part, -1), 2*c.lost, 2*c.part+1)
		holdSteep(t, both, at(c.part, -c.part, -1), 0, 2*c.part+1)
		holdSteep(t, east, at(-c.part, 0, -c.part), -c.lost, 2*c.part+1)
	}
}

// holdSteep holds that a ray from so many parts over a slope loses so many parts for each 1 more than those of its own Z, by the distance at which it meets the ground.
func holdSteep(t *testing.T, f *field.Field, dir api.V3, lost, over api.Fx) {
	t.Helper()
	steep := lost - dir.Z
	want := (&steps{}).quotient(over, steep)
	base, ok := ray.Cast(nil, f, at(2*one, 2*one, -one), down, 0)
	if !ok {
		t.Fatal("there is no ground")
	}
	height := f.Height(nil, 2*one, 2*one)
	got, ok := ray.Cast(nil, f, at(2*one, 2*one, height+over), dir, longest)
	if met := want <= longest; ok != met || met && (got.Far != want || got.Normal != base.Normal) {
		t.Fatalf("%d parts above the ground, along %v, the ray meets it (%v) at %d, not at %d", over, dir, ok, got.Far, want)
	}
}

// Promise 13.1: distances of few parts of a direction: those that are too great for a ray, and those that do not fit, which are noted nowhere.
func TestDistancesThatDoNotFit(t *testing.T) {
	f := made(t, level(2, 2))
	up := at(0, 0, one)
	for _, way := range []api.Fx{0, 1, -1, 7} {
		dir := at(way, -way, -1)
		holdFar(t, f, at(5*one, 5*one, 0), dir, 0, up, 1)
		holdFar(t, f, at(5*one, 5*one, 1), dir, one, up, 1)
		holdFar(t, f, at(5*one, 5*one, 64), dir, longest, up, 1)
		for _, z := range []api.Fx{65, 1 << 30, 1<<31 - 1, 1 << 31, 1<<31 + 1, 1<<32 - 1, 1 << 32, 1<<32 + 1, 1 << 33, one, 3 * one, 1 << 40, high - 1, high} {
			holdNone(t, f, at(5*one, 5*one, z), dir, longest)
			holdNone(t, f, at(5*one, 5*one, z), dir, 0)
		}
	}
	// One plane is reached too far off to fit, and another one is met.
	g := example()
	holdNone(t, made(t, g), at(2*one, one, 2*one), at(one, 0, half-1), longest)
	holdFar(t, made(t, g), at(one, one, one), at(one, 0, -1), 5*one-10, (&steps{}).unit(-half, 0, one), 1)
}

// Promise 13.3: where a vertical ray downward meets the ground, Far is the height of o above it.
func TestVertical(t *testing.T) {
	d := draw(1)
	for range 500 {
		tr := d.track(6)
		f, g := made(t, tr), ground{tr}
		for range 10 {
			x, y := d.coordinate(tr.Corner.X, tr.Cell, tr.Cols), d.coordinate(tr.Corner.Y, tr.Cell, tr.Rows)
			height := g.height(x, y)
			o := at(x, y, height+d.number(0, longest))
			if !valid(o, down, longest) {
				continue
			}
			got, ok := ray.Cast(nil, f, o, down, longest)
			if !ok || got.Far != o.Z-height || got.Far != o.Z-f.Height(nil, x, y) || got.Normal != f.Normal(nil, x, y) || got.Kind != f.Kind(x, y) {
				t.Fatalf("Cast(%v) down = %v, %v, where the ground has the height %d", o, got, ok, height)
			}
			holdFar(t, f, o, down, o.Z-height, got.Normal, got.Kind)
			holdNone(t, f, o, at(0, 0, one), longest)
			holdNone(t, f, o, at(0, 0, 0), longest)
		}
	}
}

// Promise 13.3: the place where a ray meets the ground is on it, up to some parts: at most 5 for the roundings of places, heights and the distance, and 1 for each unit of the distance, as the ray's slope to the ground is rounded. (Of a place beyond MaxExtent no height is told.)
func TestOnTheGround(t *testing.T) {
	d := draw(2)
	met := 0
	for range 4000 {
		tr := d.track(6)
		f, g := made(t, tr), ground{tr}
		for range 6 {
			o, dir, long := d.ray(g)
			got, ok := ray.Cast(nil, f, o, dir, long)
			m := &fx.M{}
			p := ray.Point(m, o, dir, got.Far)
			if !ok || got.Far == 0 || max(p.X, p.Y) > most || min(p.X, p.Y) < -most {
				continue
			}
			met++
			off := p.Z - f.Height(m, p.X, p.Y)
			if bound := got.Far/one + 6; m.Over || off < -bound || off > bound {
				t.Fatalf("Cast(%v, %v, %d) = %v: that is %d parts off the ground; Over is %v", o, dir, long, got, off, m.Over)
			}
		}
	}
	if met < 5000 {
		t.Fatalf("only %d rays meet the ground", met)
	}
}

// seen counts the rays that meet something and those that do not, and of the first those that do it at once, and far from where they begin.
type seen struct{ met, missed, here, across int }

// count holds a drawn ray, and counts it.
func (s *seen) count(t *testing.T, f *field.Field, g ground, o, dir api.V3, long api.Fx) {
	t.Helper()
	if !holdReckoned(t, f, g, o, dir, long) {
		s.missed++
		return
	}
	s.met++
	far, _ := g.cast(o, dir, long)
	if far.Far == 0 {
		s.here++
	}
	p := (&steps{}).point(o, dir, far.Far)
	c, r, _ := g.triangle(o.X, o.Y)
	if col, row, _ := g.triangle(p.X, p.Y); col != c || row != r {
		s.across++
	}
}

// Promise 13.1: drawn rays over drawn tracks, small ones and great ones, in every direction, and the same ones with just the length they need and one part less.
func TestDrawn(t *testing.T) {
	d := draw(3)
	s := &seen{}
	for _, c := range []struct{ tracks, rays, largest int }{{1500, 8, 3}, {60, 8, 20}, {3, 4, 64}} {
		for range c.tracks {
			tr := d.track(c.largest)
			f, g := made(t, tr), ground{tr}
			for range c.rays {
				o, dir, long := d.ray(g)
				s.count(t, f, g, o, dir, long)
				if want, ok := g.cast(o, dir, longest); ok && want.Far > 0 {
					holdReckoned(t, f, g, o, dir, want.Far)
					holdReckoned(t, f, g, o, dir, want.Far-1)
				}
			}
		}
	}
	if min(s.met, s.missed, s.here, s.across) < 500 {
		t.Fatalf("drawn rays: %+v", *s)
	}
}

// Promise 13.1: rays through many cells of a wide and flat track, which pass hills on the way.
func TestDrawnFar(t *testing.T) {
	d := draw(4)
	s := &seen{}
	for range 60 {
		tr := level(8+d.IntN(12), 8+d.IntN(12))
		tr.Heights = d.heights(tr, 3*one)
		f, g := made(t, tr), ground{tr}
		for range 12 {
			x, y := d.number(0, tr.Cell*api.Fx(tr.Cols)), d.number(0, tr.Cell*api.Fx(tr.Rows))
			dir := at(d.number(-one, one), d.number(-one, one), d.number(-one/8, one/32))
			s.count(t, f, g, at(x, y, d.number(-one, 4*one)), dir, longest)
		}
	}
	if min(s.met, s.missed, s.here, s.across) < 50 {
		t.Fatalf("drawn rays: %+v", *s)
	}
}

// Promise 13.1: rays that go exactly through corners, along edges and along diagonals of cells.
func TestDrawnOnEdges(t *testing.T) {
	d := draw(5)
	s := &seen{}
	for range 600 {
		tr := level(1+d.IntN(5), 1+d.IntN(5))
		for i := range tr.Heights {
			tr.Heights[i] = one * api.Fx(d.IntN(5))
		}
		f, g := made(t, tr), ground{tr}
		for range 10 {
			o := at(4*one*api.Fx(d.IntN(tr.Cols+1)), 4*one*api.Fx(d.IntN(tr.Rows+1)), half*api.Fx(d.IntN(16)))
			dir := at(half*api.Fx(d.IntN(5)-2), half*api.Fx(d.IntN(5)-2), -quarter*api.Fx(d.IntN(5)))
			back := api.Fx(d.IntN(9)) // so far ahead of the corner the ray begins
			o = at(o.X-back*dir.X, o.Y-back*dir.Y, o.Z-back*dir.Z)
			s.count(t, f, g, o, dir, longest)
		}
	}
	if min(s.met, s.missed, s.here, s.across) < 200 {
		t.Fatalf("drawn rays: %+v", *s)
	}
}

// holdPoint holds a place of a ray with an M that is new, with one that has noted something already, and with none.
func holdPoint(t *testing.T, o, dir api.V3, far api.Fx, want api.V3, over bool) {
	t.Helper()
	fresh, old := &fx.M{}, &fx.M{Over: true}
	for _, m := range []*fx.M{fresh, old, nil} {
		if got := ray.Point(m, o, dir, far); got != want {
			t.Fatalf("Point(%v, %v, %d) = %v, not %v", o, dir, far, got, want)
		}
	}
	if fresh.Over != over || !old.Over {
		t.Fatalf("Over is %v, not %v, and %v where it was true, after Point(%v, %v, %d)", fresh.Over, over, old.Over, o, dir, far)
	}
}

// Promise 13.2: o plus d times s, each product rounded.
func TestPoint(t *testing.T) {
	holdPoint(t, at(2*one, one, 2*one), at(one, 0, -half), 3*one, at(5*one, one, half), false)
	holdPoint(t, at(one, 2*one, 3*one), at(half, -quarter, one), 4*one, at(3*one, one, 7*one), false)
	holdPoint(t, at(one, 2*one, 3*one), at(half, -quarter, one), -4*one, at(-one, 3*one, -one), false)
	holdPoint(t, at(one, 2*one, 3*one), at(9*one, -9*one, 9*one), 0, at(one, 2*one, 3*one), false)
	holdPoint(t, at(one, 2*one, 3*one), at(0, 0, 0), greatest, at(one, 2*one, 3*one), false)
	holdPoint(t, at(7, 7, 7), at(1, 3, 5), half, at(7, 9, 9), false) // halves go to the even number, ahead of the sum
	holdPoint(t, at(7, 7, 7), at(-1, -3, -5), half, at(7, 5, 5), false)
	holdPoint(t, api.V3{}, at(100*one, 200*one, -300*one), 1000*one, at(100000*one, 200000*one, -300000*one), false)
}

// Promise 13.2: what does not fit is noted, of each component, in the product and in the sum.
func TestPointOver(t *testing.T) {
	big := api.Fx(1) << 62
	holdPoint(t, at(greatest, 0, 0), at(1, 0, 0), one, at(greatest, 0, 0), true)
	holdPoint(t, at(0, greatest, 0), at(0, 1, 0), one, at(0, greatest, 0), true)
	holdPoint(t, at(0, 0, greatest), at(0, 0, 1), one, at(0, 0, greatest), true)
	holdPoint(t, at(0, 0, least), at(0, 0, -1), one, at(0, 0, least), true)
	holdPoint(t, at(-1, -1, -1), at(big, 0, 0), 2*one, at(greatest-1, -1, -1), true) // the product does not fit, and the sum does
	holdPoint(t, at(1, 1, 1), at(0, big, 0), -3*one, at(1, least+1, 1), true)
	holdPoint(t, at(0, 0, 0), at(0, 0, big), -2*one, at(0, 0, least), false)
	holdPoint(t, at(greatest-1, 0, 0), at(1, 0, 0), one, at(greatest, 0, 0), false)
}

// Promise 13.2: drawn places, directions and distances of every size.
func TestPointDrawn(t *testing.T) {
	d := draw(6)
	number := func() api.Fx { return api.Fx(int64(d.Uint64()) >> d.IntN(64)) }
	noted := 0
	for range 30000 {
		o, dir, far := at(number(), number(), number()), at(number(), number(), number()), number()
		s := &steps{}
		want := s.point(o, dir, far)
		if s.over {
			noted++
		}
		holdPoint(t, o, dir, far, want, s.over)
	}
	if noted < 1000 || noted > 29000 {
		t.Fatalf("%d of the drawn places do not fit", noted)
	}
}

// Promise 13.1, rule R1: a nil field is met nowhere, with any M.
func TestNilField(t *testing.T) {
	for _, z := range []api.Fx{-high, -one, -1, 0, 1, one, high, least, greatest} {
		for _, dir := range []api.V3{down, {}, at(one, one, -one), at(0, 0, -1), at(least, greatest, least)} {
			for _, long := range []api.Fx{least, -1, 0, 1, one, longest, greatest} {
				holdNone(t, nil, at(0, 0, z), dir, long)
				holdNone(t, nil, at(one, -one, z), dir, long)
			}
		}
	}
}

// Rule R1: every call returns, whatever it is given, and tells what it must.
func TestTotal(t *testing.T) {
	wild := []api.Fx{least, least + 1, -most - 1, -most, -high - 1, -high, -one - 1, -one, -1, 0, 1, one, one + 1, longest, longest + 1, high, high + 1, most, most + 1, greatest}
	d := draw(7)
	number := func() api.Fx { return wild[d.IntN(len(wild))] }
	tr := d.track(3)
	f, g := made(t, tr), ground{tr}
	for range 40000 {
		o, dir, long := at(number(), number(), number()), at(number(), number(), number()), number()
		switch d.IntN(4) {
		case 0:
			dir = at(d.part(), d.part(), d.part())
		case 1:
			o = at(d.number(-most, most), d.number(-most, most), d.number(-high, high))
		case 2:
			o, dir, long = d.ray(g)
			for _, n := range []*api.Fx{&o.X, &o.Y, &o.Z, &dir.X, &dir.Y, &dir.Z, &long} {
				if d.IntN(7) == 0 {
					*n = number()
				}
			}
		}
		want, ok := g.cast(o, dir, long)
		if got, met := ray.Cast(&fx.M{}, f, o, dir, long); got != want || met != ok {
			t.Fatalf("Cast(%v, %v, %d) = %v, %v, not %v, %v", o, dir, long, got, met, want, ok)
		}
	}
}

// Rules R4 and R5: what is told does not change by asking, nor with the track that the field was made of, and the field stays as it was.
func TestAskedAgain(t *testing.T) {
	tr := raised(5, 4, func(c, r int) api.Fx { return api.Fx((3*c+5*r+c*r)%8) * half })
	kept := raised(5, 4, func(c, r int) api.Fx { return api.Fx((3*c+5*r+c*r)%8) * half })
	f, g := made(t, tr), ground{kept}
	for i := range tr.Heights {
		tr.Heights[i] = -9 * one
	}
	for i := range tr.Ground {
		tr.Ground[i] = 0
	}
	for range 3 {
		d := draw(8)
		for range 200 {
			o, dir, long := d.ray(g)
			holdReckoned(t, f, g, o, dir, long)
			ray.Cast(nil, nil, o, dir, long)
			ray.Cast(&fx.M{}, f, o, dir, -1)
		}
		for i := range kept.Ground {
			x, y := api.Fx(i%5)*4*one+one, api.Fx(i/5)*4*one+3*one
			if f.Height(nil, x, y) != g.height(x, y) || f.Kind(x, y) != kept.Ground[i] {
				t.Fatalf("the field tells %d and %d at (%d, %d)", f.Height(nil, x, y), f.Kind(x, y), x, y)
			}
		}
	}
}
