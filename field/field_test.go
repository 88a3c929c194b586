package field_test

import (
	"math"
	"math/big"
	"math/rand/v2"
	"reflect"
	"slices"
	"testing"

	"chicane/api"
	"chicane/field"
	"chicane/fx"
)

const (
	one      = api.One
	half     = api.One / 2
	most     = api.MaxExtent
	top      = api.MaxHeight / 2
	greatest = api.Fx(math.MaxInt64)
	least    = api.Fx(math.MinInt64)
)

// whole makes numbers of integers.
func whole(n ...api.Fx) []api.Fx {
	l := []api.Fx{}
	for _, v := range n {
		l = append(l, v*one)
	}
	return l
}

// level makes a valid track of so many cells, all of them at the height 0.
func level(cols, rows int) api.Track {
	return api.Track{
		Cell: 4 * one, Cols: cols, Rows: rows, Corner: api.V2{X: -one, Y: 2 * one},
		Heights: make([]api.Fx, (cols+1)*(rows+1)), Ground: make([]int, cols*rows), Kinds: make([]api.Kind, 3),
	}
}

// raised makes a valid track of so many cells, with a height for each corner's column and row.
func raised(cols, rows int, height func(c, r int) api.Fx) api.Track {
	t := level(cols, rows)
	for i := range t.Heights {
		t.Heights[i] = height(i%(cols+1), i/(cols+1))
	}
	return t
}

// hills makes a valid track of so many cells, of several kinds.
func hills(cols, rows int) api.Track {
	t := raised(cols, rows, func(c, r int) api.Fx { return api.Fx((3*c+5*r+c*r)%8)*half + api.Fx(c) })
	for i := range t.Ground {
		t.Ground[i] = (i + i/cols) % len(t.Kinds)
	}
	return t
}

// slope is the chapter's field: one cell with the heights 0, 0, 0, 4.
func slope() api.Track {
	t := level(1, 1)
	t.Corner = api.V2{}
	t.Heights = whole(0, 0, 0, 4)
	return t
}

// changed is a list with another element at an index.
func changed[E any](l []E, index int, e E) []E {
	l = slices.Clone(l)
	l[index] = e
	return l
}

// sizes are numbers of columns and of rows: one, few and many.
func sizes(call func(cols, rows int)) {
	for _, s := range [][2]int{{1, 1}, {2, 1}, {1, 2}, {3, 2}, {4, 5}, {64, 1}, {1, 64}, {64, 64}} {
		call(s[0], s[1])
	}
}

// drawer draws by a fixed rule.
type drawer struct{ *rand.Rand }

func draw(seed uint64) drawer { return drawer{rand.New(rand.NewPCG(12, seed))} }

// number draws a number from low to high, quite often one of both.
func (d drawer) number(low, high api.Fx) api.Fx {
	switch d.IntN(8) {
	case 0:
		return low
	case 1:
		return high
	}
	return low + api.Fx(d.Int64N(int64(high-low)+1))
}

// side draws a cell's side: an integer, or any.
func (d drawer) side() api.Fx {
	if d.IntN(3) == 0 {
		return one * api.Fx(4+d.IntN(61))
	}
	return d.number(4*one, 64*one)
}

// heights draws those of a valid track: each corner is as near to its neighbours as it must be.
func (d drawer) heights(t api.Track) []api.Fx {
	l := []api.Fx{}
	row := t.Cols + 1
	for i := range row * (t.Rows + 1) {
		low, high := -top, top
		if i%row > 0 {
			low, high = max(low, l[i-1]-t.Cell), min(high, l[i-1]+t.Cell)
		}
		if i >= row {
			low, high = max(low, l[i-row]-t.Cell), min(high, l[i-row]+t.Cell)
		}
		l = append(l, d.number(low, high))
	}
	return l
}

// track draws a valid track of at most so many columns and rows.
func (d drawer) track(largest int) api.Track {
	t := api.Track{Cell: d.side(), Cols: 1 + d.IntN(largest), Rows: 1 + d.IntN(largest)}
	t.Corner = api.V2{X: d.number(-most/2, most/2), Y: d.number(-most/2, most/2)}
	t.Heights = d.heights(t)
	for range 1 + d.IntN(api.MaxKinds) {
		t.Kinds = append(t.Kinds, api.Kind{Grip: d.number(0, 2*one), Drag: d.number(0, one), Off: d.IntN(2) == 0})
	}
	for range t.Cols * t.Rows {
		t.Ground = append(t.Ground, d.IntN(len(t.Kinds)))
	}
	return t
}

// place draws a coordinate about a field's side that begins somewhere: in it, at cells' ends, about it, or anywhere.
func (d drawer) place(begins, side api.Fx, cells int) api.Fx {
	switch d.IntN(8) {
	case 0:
		return begins + api.Fx(d.IntN(cells+1))*side + api.Fx(d.IntN(3)-1)
	case 1:
		return d.number(-most, most)
	case 2:
		return api.Fx(int64(d.Uint64()) >> d.IntN(17))
	}
	return begins + d.number(-3*side, api.Fx(cells+3)*side)
}

// steps reckons in big integers, and notes what does not fit: another reckoning than fx's own.
type steps struct{ over bool }

func (s *steps) fit(n *big.Int) api.Fx {
	if n.IsInt64() {
		return api.Fx(n.Int64())
	}
	s.over = true
	if n.Sign() > 0 {
		return greatest
	}
	return least
}

func (s *steps) sum(a, b api.Fx) api.Fx {
	return s.fit(new(big.Int).Add(big.NewInt(int64(a)), big.NewInt(int64(b))))
}

// nearest is n / d, for a d above 0, to the nearest number, and to the even one of two that are equally near.
func (s *steps) nearest(n, d *big.Int) api.Fx {
	below, rest := new(big.Int).DivMod(n, d, new(big.Int))
	order := rest.Lsh(rest, 1).Cmp(d)
	if order > 0 || order == 0 && below.Bit(0) == 1 {
		below.Add(below, big.NewInt(1))
	}
	return s.fit(below)
}

func (s *steps) product(a, b api.Fx) api.Fx {
	return s.nearest(new(big.Int).Mul(big.NewInt(int64(a)), big.NewInt(int64(b))), big.NewInt(int64(one)))
}

func (s *steps) quotient(a, b api.Fx) api.Fx {
	return s.nearest(new(big.Int).Lsh(big.NewInt(int64(a)), 32), big.NewInt(int64(b)))
}

// unit is a vector divided by its length, whose exact square's root is rounded down.
func (s *steps) unit(x, y, z api.Fx) api.V3 {
	long := new(big.Int)
	for _, c := range []api.Fx{x, y, z} {
		n := big.NewInt(int64(c))
		long.Add(long, n.Mul(n, n))
	}
	far := s.fit(long.Sqrt(long))
	return api.V3{X: s.quotient(x, far), Y: s.quotient(y, far), Z: s.quotient(z, far)}
}

// ground is another reckoning of a valid track's field.
type ground struct{ api.Track }

// axis reckons one coordinate of Where with numbers that have no end.
func (g ground) axis(at, begins api.Fx, cells int) (int, api.Fx) {
	way := big.NewInt(int64(max(-most, min(most, at))))
	way.Sub(way, big.NewInt(int64(begins)))
	side := big.NewInt(int64(g.Cell))
	cell := int(new(big.Int).Div(way, side).Int64()) // rounded down, as the side is above 0
	cell = max(0, min(cells-1, cell))
	way.Sub(way, side.Mul(side, big.NewInt(int64(cell))))
	return cell, api.Fx(way.Int64())
}

func (g ground) where(x, y api.Fx) (c, r int, dx, dy api.Fx) {
	c, dx = g.axis(x, g.Corner.X, g.Cols)
	r, dy = g.axis(y, g.Corner.Y, g.Rows)
	return c, r, dx, dy
}

// corner is the height of a corner, which ends a row and a column too.
func (g ground) corner(c, r int) api.Fx { return g.Heights[r*(g.Cols+1)+c] }

func (g ground) exists(c, r int) bool { return c >= 0 && c < g.Cols && r >= 0 && r < g.Rows }

func (g ground) base(c, r int) api.Fx {
	if !g.exists(c, r) {
		return 0
	}
	return g.corner(c, r)
}

func (g ground) slopes(c, r int, upper bool) (api.Fx, api.Fx) {
	if !g.exists(c, r) {
		return 0, 0
	}
	h00, h10, h01, h11 := g.corner(c, r), g.corner(c+1, r), g.corner(c, r+1), g.corner(c+1, r+1)
	s := &steps{}
	if upper {
		return s.quotient(h11-h01, g.Cell), s.quotient(h01-h00, g.Cell)
	}
	return s.quotient(h10-h00, g.Cell), s.quotient(h11-h10, g.Cell)
}

// triangle is what belongs to a place's triangle: the height of its cell's beginning, the slopes, and the offset.
func (g ground) triangle(x, y api.Fx) (base, a, b, dx, dy api.Fx) {
	c, r, dx, dy := g.where(x, y)
	a, b = g.slopes(c, r, dx < dy)
	return g.base(c, r), a, b, dx, dy
}

func (g ground) height(x, y api.Fx) api.Fx {
	base, a, b, dx, dy := g.triangle(x, y)
	s := &steps{}
	return s.sum(s.sum(base, s.product(a, dx)), s.product(b, dy))
}

func (g ground) normal(x, y api.Fx) api.V3 {
	_, a, b, _, _ := g.triangle(x, y)
	return (&steps{}).unit(-a, -b, one)
}

func (g ground) kind(x, y api.Fx) int {
	c, r, _, _ := g.where(x, y)
	return g.Ground[r*g.Cols+c]
}

// apart tells whether numbers differ by more than a bound.
func apart(a, b, bound api.Fx) bool {
	n := new(big.Int).Sub(big.NewInt(int64(a)), big.NewInt(int64(b)))
	return n.CmpAbs(big.NewInt(int64(bound))) > 0
}

// fault reckons what is wrong with a track.
func fault(t api.Track) api.Errno {
	few := func(n, from, to int) bool { return n < from || n > to }
	if few(t.Cols, 1, 64) || few(t.Rows, 1, 64) || few(len(t.Kinds), 1, 8) {
		return api.ErrShape
	}
	row := t.Cols + 1
	if len(t.Heights) != row*t.Rows+row || len(t.Ground) != t.Rows*t.Cols {
		return api.ErrShape
	}
	wrong := t.Cell < 4*one || t.Cell > 64*one || apart(t.Corner.X, 0, most/2) || apart(t.Corner.Y, 0, most/2)
	for i, h := range t.Heights {
		wrong = wrong || apart(h, 0, top)
		wrong = wrong || i%row > 0 && apart(h, t.Heights[i-1], t.Cell)
		wrong = wrong || i >= row && apart(h, t.Heights[i-row], t.Cell)
	}
	for _, k := range t.Ground {
		wrong = wrong || few(k, 0, len(t.Kinds)-1)
	}
	for _, k := range t.Kinds {
		wrong = wrong || k.Grip < 0 || k.Grip > 2*one || k.Drag < 0 || k.Drag > one
	}
	if wrong {
		return api.ErrRange
	}
	return api.OK
}

// told is a track as far as its field goes, with the beginnings of its lists, for what is told of it.
func told(t api.Track) api.Track {
	return api.Track{
		Cell: t.Cell, Cols: t.Cols, Rows: t.Rows, Corner: t.Corner,
		Heights: t.Heights[:min(len(t.Heights), 32)], Ground: t.Ground[:min(len(t.Ground), 32)], Kinds: t.Kinds,
	}
}

func holdNew(t *testing.T, tr api.Track, want api.Errno) {
	t.Helper()
	f, got := field.New(tr)
	if got != want || (f != nil) != (want == api.OK) {
		t.Fatalf("New(%v) = %v, %d, not %d", told(tr), f != nil, got, want)
	}
}

// made makes a field of a valid track.
func made(t *testing.T, tr api.Track) *field.Field {
	t.Helper()
	f, err := field.New(tr)
	if err != api.OK {
		t.Fatalf("New(%v) = %d", told(tr), err)
	}
	return f
}

// holdM makes a call with an M that is new, with one that has noted something already, and with none; nothing may be noted.
func holdM(t *testing.T, call func(m *fx.M)) {
	t.Helper()
	fresh, old := &fx.M{}, &fx.M{Over: true}
	call(fresh)
	call(old)
	call(nil)
	if fresh.Over || !old.Over {
		t.Fatalf("Over is %v, and %v where it was true", fresh.Over, old.Over)
	}
}

func holdWhere(t *testing.T, f *field.Field, x, y api.Fx, c, r int, dx, dy api.Fx) {
	t.Helper()
	gotC, gotR, gotX, gotY := f.Where(x, y)
	if gotC != c || gotR != r || gotX != dx || gotY != dy {
		t.Fatalf("Where(%d, %d) = (%d, %d) (%d, %d), not (%d, %d) (%d, %d)", x, y, gotC, gotR, gotX, gotY, c, r, dx, dy)
	}
}

func holdSlopes(t *testing.T, f *field.Field, c, r int, upper bool, a, b api.Fx) {
	t.Helper()
	holdM(t, func(m *fx.M) {
		t.Helper()
		if gotA, gotB := f.Slopes(m, c, r, upper); gotA != a || gotB != b {
			t.Fatalf("Slopes(%d, %d, %v) = (%d, %d), not (%d, %d)", c, r, upper, gotA, gotB, a, b)
		}
	})
}

func holdBase(t *testing.T, f *field.Field, c, r int, want api.Fx) {
	t.Helper()
	if got := f.Base(c, r); got != want {
		t.Fatalf("Base(%d, %d) = %d, not %d", c, r, got, want)
	}
}

func holdHeight(t *testing.T, f *field.Field, x, y, want api.Fx) {
	t.Helper()
	holdM(t, func(m *fx.M) {
		t.Helper()
		if got := f.Height(m, x, y); got != want {
			t.Fatalf("Height(%d, %d) = %d, not %d", x, y, got, want)
		}
	})
}

func holdNormal(t *testing.T, f *field.Field, x, y api.Fx, want api.V3) {
	t.Helper()
	holdM(t, func(m *fx.M) {
		t.Helper()
		if got := f.Normal(m, x, y); got != want {
			t.Fatalf("Normal(%d, %d) = %v, not %v", x, y, got, want)
		}
	})
}

func holdKind(t *testing.T, f *field.Field, x, y api.Fx, want int) {
	t.Helper()
	if got := f.Kind(x, y); got != want {
		t.Fatalf("Kind(%d, %d) = %d, not %d", x, y, got, want)
	}
}

// holdCell holds what is told of a cell, which may exist or not.
func holdCell(t *testing.T, f *field.Field, g ground, c, r int) {
	t.Helper()
	holdBase(t, f, c, r, g.base(c, r))
	for _, upper := range []bool{false, true} {
		a, b := g.slopes(c, r, upper)
		holdSlopes(t, f, c, r, upper, a, b)
	}
}

// holdPlace holds all that is told of a place.
func holdPlace(t *testing.T, f *field.Field, g ground, x, y api.Fx) {
	t.Helper()
	c, r, dx, dy := g.where(x, y)
	holdWhere(t, f, x, y, c, r, dx, dy)
	holdHeight(t, f, x, y, g.height(x, y))
	holdNormal(t, f, x, y, g.normal(x, y))
	holdKind(t, f, x, y, g.kind(x, y))
}

// Promise 12.1: the numbers of columns and rows, with lists that fit them as far as lists can.
func TestNewSides(t *testing.T) {
	counts := []int{1, 2, 63, 64, 0, 65, 66, 128, 256, -1, -2, -64, -65, math.MaxInt, math.MinInt, math.MaxInt - 1, 1 << 32, 1 << 31, 1 << 62, -1 << 32, math.MaxInt32}
	list := func(n int) int {
		if n < 0 || n > 1<<17 {
			return 0
		}
		return n
	}
	for _, cols := range counts {
		for _, rows := range counts {
			tr := level(1, 1)
			tr.Cols, tr.Rows = cols, rows
			tr.Heights = make([]api.Fx, list((cols+1)*(rows+1)))
			tr.Ground = make([]int, list(cols*rows))
			want := api.ErrShape
			if slices.Contains(counts[:4], cols) && slices.Contains(counts[:4], rows) {
				want = api.OK
			}
			holdNew(t, tr, want)
			tr.Heights, tr.Ground = make([]api.Fx, 4), make([]int, 1)
			if cols != 1 || rows != 1 {
				want = api.ErrShape
			}
			holdNew(t, tr, want)
		}
	}
}

// Promise 12.1: the numbers of heights and of elements of Ground.
func TestNewLists(t *testing.T) {
	sizes(func(cols, rows int) {
		for more := -2; more <= 2; more++ {
			want := api.ErrShape
			if more == 0 {
				want = api.OK
			}
			tr := level(cols, rows)
			tr.Heights = make([]api.Fx, len(tr.Heights)+more)
			holdNew(t, tr, want)
			tr = level(cols, rows)
			tr.Ground = make([]int, max(0, len(tr.Ground)+more))
			holdNew(t, tr, want)
		}
		for _, n := range []int{0, cols * rows, cols*rows + cols, cols*rows + rows, (cols + 1) * rows} {
			tr := level(cols, rows)
			tr.Heights = make([]api.Fx, n)
			holdNew(t, tr, api.ErrShape)
		}
		for _, n := range []int{0, (cols + 1) * (rows + 1), cols + rows + cols*rows, cols*rows + 65} {
			tr := level(cols, rows)
			tr.Ground = make([]int, n)
			holdNew(t, tr, api.ErrShape)
		}
	})
	tr := level(1, 1)
	tr.Heights = nil
	holdNew(t, tr, api.ErrShape)
	tr = level(1, 1)
	tr.Ground = nil
	holdNew(t, tr, api.ErrShape)
	holdNew(t, api.Track{}, api.ErrShape)
}

// Promise 12.1: the number of kinds.
func TestNewKinds(t *testing.T) {
	for n := range 300 {
		want := api.OK
		if n < 1 || n > 8 {
			want = api.ErrShape
		}
		tr := level(2, 3)
		tr.Kinds = make([]api.Kind, n)
		holdNew(t, tr, want)
	}
	tr := level(1, 1)
	tr.Kinds = nil
	holdNew(t, tr, api.ErrShape)
}

// numbers holds a number of a track at what may be and at what may not be.
func numbers(t *testing.T, set func(n api.Fx) api.Track, low, high api.Fx) {
	t.Helper()
	for _, n := range []api.Fx{low, low + 1, low + (high-low)/3, high - 1, high} {
		holdNew(t, set(n), api.OK)
	}
	for _, n := range []api.Fx{low - 1, high + 1, low - one, high + one, low - 1<<40, 5 * high, least, least + 1, greatest, greatest - 1, most + 1, -most - 1} {
		holdNew(t, set(n), api.ErrRange)
	}
}

// Promise 12.1: a cell's side.
func TestNewCell(t *testing.T) {
	sizes(func(cols, rows int) {
		numbers(t, func(n api.Fx) api.Track {
			tr := level(cols, rows)
			tr.Cell = n
			return tr
		}, 4*one, 64*one)
	})
	for _, n := range []api.Fx{0, 1, -1, 4, 64, -4 * one, -64 * one} {
		tr := level(1, 1)
		tr.Cell = n
		holdNew(t, tr, api.ErrRange)
	}
}

// Promise 12.1: the corner's coordinates.
func TestNewCorner(t *testing.T) {
	for _, other := range []api.Fx{0, one, -most / 2, most / 2} {
		numbers(t, func(n api.Fx) api.Track {
			tr := level(64, 64)
			tr.Corner = api.V2{X: n, Y: other}
			return tr
		}, -most/2, most/2)
		numbers(t, func(n api.Fx) api.Track {
			tr := level(2, 1)
			tr.Corner = api.V2{X: other, Y: n}
			return tr
		}, -most/2, most/2)
	}
}

// Promise 12.1: a height's bounds, at every corner, where the neighbours are as high up or as low down as may be.
func TestNewHeights(t *testing.T) {
	for _, s := range [][2]int{{1, 1}, {2, 1}, {1, 3}, {4, 3}} {
		for i := range (s[0] + 1) * (s[1] + 1) {
			for _, sign := range []api.Fx{1, -1} {
				at := func(n api.Fx) api.Track {
					tr := raised(s[0], s[1], func(c, r int) api.Fx { return sign * top })
					tr.Heights[i] = sign * n
					return tr
				}
				for _, n := range []api.Fx{top, top - 1, top - 4*one} {
					holdNew(t, at(n), api.OK)
				}
				for _, n := range []api.Fx{top + 1, top + one, 2 * top, greatest, least, least + 1, -top, top - 4*one - 1} {
					holdNew(t, at(n), api.ErrRange)
				}
			}
		}
	}
	// Differences that do not fit, and that would be small if they were cut off.
	for _, n := range []api.Fx{least, greatest, 1 << 62, -1 << 62} {
		holdNew(t, raised(3, 3, func(c, r int) api.Fx { return n }), api.ErrRange)
		holdNew(t, raised(3, 3, func(c, r int) api.Fx { return n * api.Fx((c+r)%2) }), api.ErrRange)
		holdNew(t, raised(3, 3, func(c, r int) api.Fx { return n ^ -api.Fx((c+r)%2) }), api.ErrRange)
	}
}

// Promise 12.1: neighbours that differ by a cell's side, and by one part more at one pair alone, in a row and in a column, up and down.
func TestNewNeighbours(t *testing.T) {
	for _, s := range [][2]int{{1, 1}, {2, 1}, {1, 2}, {3, 4}, {5, 2}} {
		for _, side := range []api.Fx{4 * one, 4*one + 1, 7*one - 3, 64 * one} {
			for c := range s[0] + 1 {
				for r := range s[1] + 1 {
					for _, sign := range []api.Fx{1, -1} {
						for more := api.Fx(-1); more <= 1; more++ {
							cliffs(t, s[0], s[1], c, r, side, sign, more)
						}
					}
				}
			}
		}
	}
}

// cliffs holds tracks with a cliff of a cell's side between two columns and two rows, behind a corner, that is a part more or less high at this corner alone.
func cliffs(t *testing.T, cols, rows, col, row int, side, sign, more api.Fx) {
	t.Helper()
	want := api.OK
	if more > 0 {
		want = api.ErrRange
	}
	cliff := func(beyond, here bool) api.Fx {
		switch {
		case !beyond:
			return 0
		case here:
			return sign * (side + more)
		}
		return sign * side
	}
	if col < cols {
		tr := raised(cols, rows, func(c, r int) api.Fx { return cliff(c > col, r == row) })
		tr.Cell = side
		holdNew(t, tr, want)
	}
	if row < rows {
		tr := raised(cols, rows, func(c, r int) api.Fx { return cliff(r > row, c == col) })
		tr.Cell = side
		holdNew(t, tr, want)
	}
}

// Promise 12.1: neither the corners across a cell nor the ends of a row and of the next one are neighbours.
func TestNewNotNeighbours(t *testing.T) {
	sizes(func(cols, rows int) {
		side := 4 * one
		holdNew(t, raised(cols, rows, func(c, r int) api.Fx { return api.Fx(c) * side }), api.OK)
		holdNew(t, raised(cols, rows, func(c, r int) api.Fx { return -api.Fx(c) * side }), api.OK)
		holdNew(t, raised(cols, rows, func(c, r int) api.Fx { return api.Fx(r) * side }), api.OK)
		holdNew(t, raised(cols, rows, func(c, r int) api.Fx { return api.Fx(c+r) * side }), api.OK)
		holdNew(t, raised(cols, rows, func(c, r int) api.Fx { return api.Fx(c-r) * side }), api.OK)
		holdNew(t, raised(cols, rows, func(c, r int) api.Fx { return api.Fx((c+r)%2) * side }), api.OK)
	})
}

// Promise 12.1: Ground tells indices of Kinds.
func TestNewGround(t *testing.T) {
	for _, kinds := range []int{1, 2, 7, 8} {
		for _, s := range [][2]int{{1, 1}, {2, 3}, {64, 1}, {9, 7}} {
			for i := range s[0] * s[1] {
				tr := level(s[0], s[1])
				tr.Kinds = make([]api.Kind, kinds)
				ground := tr.Ground
				for n := range kinds {
					tr.Ground = changed(ground, i, n)
					holdNew(t, tr, api.OK)
				}
				for _, n := range []int{kinds, kinds + 1, -1, -2, -kinds, 8, 256, 1 << 32, -1 << 32, math.MaxInt, math.MinInt} {
					tr.Ground = changed(ground, i, n)
					holdNew(t, tr, api.ErrRange)
				}
			}
		}
	}
}

// Promise 12.1: the bounds of each kind, whether any cell is of this kind or not.
func TestNewGripAndDrag(t *testing.T) {
	for _, kinds := range []int{1, 2, 8} {
		for i := range kinds {
			for _, off := range []bool{false, true} {
				at := func(grip, drag api.Fx) api.Track {
					tr := level(2, 2)
					tr.Kinds = make([]api.Kind, kinds)
					tr.Kinds[i] = api.Kind{Grip: grip, Drag: drag, Off: off}
					return tr
				}
				for _, other := range []api.Fx{0, half, one} {
					numbers(t, func(n api.Fx) api.Track { return at(n, other) }, 0, 2*one)
					numbers(t, func(n api.Fx) api.Track { return at(other, n) }, 0, one)
				}
				holdNew(t, at(2*one, one), api.OK)
			}
		}
	}
}

// Promise 12.1: the shape is told ahead of the range, whatever else is wrong.
func TestNewFirst(t *testing.T) {
	shapes := []func(t *api.Track){
		func(t *api.Track) { t.Cols = 0 },
		func(t *api.Track) { t.Rows = 65 },
		func(t *api.Track) { t.Heights = t.Heights[1:] },
		func(t *api.Track) { t.Ground = append(t.Ground, 0) },
		func(t *api.Track) { t.Kinds = nil },
		func(t *api.Track) { t.Kinds = slices.Repeat(t.Kinds, 3) },
	}
	ranges := []func(t *api.Track){
		func(t *api.Track) { t.Cell = 4*one - 1 },
		func(t *api.Track) { t.Cell = 0 },
		func(t *api.Track) { t.Corner.X = least },
		func(t *api.Track) { t.Corner.Y = most },
		func(t *api.Track) { t.Heights[5] = greatest },
		func(t *api.Track) { t.Heights[2] += 4*one + 1 },
		func(t *api.Track) { t.Ground[1] = 3 },
		func(t *api.Track) { t.Kinds[2].Grip = -1 },
		func(t *api.Track) { t.Kinds[0].Drag = one + 1 },
	}
	for _, wrong := range ranges {
		tr := level(3, 2)
		wrong(&tr)
		holdNew(t, tr, api.ErrRange)
		for _, more := range ranges {
			tr := level(3, 2)
			wrong(&tr)
			more(&tr)
			holdNew(t, tr, api.ErrRange)
		}
		for _, other := range shapes {
			tr := level(3, 2)
			wrong(&tr)
			other(&tr)
			holdNew(t, tr, api.ErrShape)
		}
	}
}

// spoil changes something of a track, which may be valid still.
func (d drawer) spoil(t *api.Track) {
	near := func(low, high api.Fx) api.Fx {
		return []api.Fx{low, low - 1, high, high + 1, low - d.number(0, most), high + d.number(0, most)}[d.IntN(6)]
	}
	switch d.IntN(12) {
	case 0:
		t.Cols += d.IntN(3) - 1
	case 1:
		t.Rows += d.IntN(3) - 1
	case 2:
		t.Heights = append(t.Heights, 0)[d.IntN(2):]
	case 3:
		t.Ground = append(t.Ground, 0)[d.IntN(2):]
	case 4:
		t.Kinds = append(t.Kinds, api.Kind{})
	case 5:
		t.Cell = near(4*one, 64*one)
	case 6:
		t.Corner.X = near(-most/2, most/2)
	case 7:
		t.Corner.Y = near(-most/2, most/2)
	case 8:
		t.Heights[d.IntN(len(t.Heights))] = near(-top, top)
	case 9:
		i := d.IntN(len(t.Heights))
		t.Heights[i] += []api.Fx{1, -1, t.Cell, -t.Cell}[d.IntN(4)]
	case 10:
		t.Ground[d.IntN(len(t.Ground))] = d.IntN(10) - 1
	case 11:
		t.Kinds[d.IntN(len(t.Kinds))] = api.Kind{Grip: near(0, 2*one), Drag: near(0, one)}
	}
}

// Promise 12.1: drawn tracks, as they are, and with one thing or several things wrong.
func TestNewDrawn(t *testing.T) {
	d := draw(1)
	count := map[api.Errno]int{}
	for range 30000 {
		tr := d.track(6)
		holdNew(t, tr, api.OK)
		for range 1 + d.IntN(2) {
			d.spoil(&tr)
		}
		want := fault(tr)
		count[want]++
		holdNew(t, tr, want)
	}
	if len(count) != 3 || min(count[api.OK], count[api.ErrShape], count[api.ErrRange]) < 1000 {
		t.Fatalf("drawn tracks tell %v", count)
	}
	for range 20 {
		holdNew(t, d.track(64), api.OK)
	}
}

// Promise 12.1: the other fields of a track are ignored.
func TestNewOtherFields(t *testing.T) {
	tr := hills(3, 2)
	tr.Rate, tr.Laps, tr.Head = -7, math.MinInt, 1<<31
	tr.Line = []api.V2{{X: least, Y: greatest}}
	tr.Rails = make([][]api.V2, 99)
	tr.Gates = []api.Gate{{A: api.V2{X: least}}}
	tr.Start = api.V2{X: greatest, Y: least}
	f := made(t, tr)
	g := ground{hills(3, 2)}
	for c := range 3 {
		for r := range 2 {
			holdCell(t, f, g, c, r)
		}
	}
	holdPlace(t, f, g, one, 5*one)
}

// Promise 12.1: a field has its own memory, and a track stays as it is, what lies behind its lists too.
func TestNewOwnMemory(t *testing.T) {
	tr, plain := hills(3, 4), hills(3, 4)
	tr.Heights = append(tr.Heights, 7, 7)[:len(tr.Heights)]
	tr.Ground = append(tr.Ground, 7, 7)[:len(tr.Ground)]
	tr.Kinds = append(tr.Kinds, api.Kind{Grip: 7}, api.Kind{Grip: 7})[:len(tr.Kinds)]
	f := made(t, tr)
	again := made(t, tr)
	if !reflect.DeepEqual(tr, plain) {
		t.Fatalf("the track is now %v", tr)
	}
	if tr.Heights[:22][21] != 7 || tr.Ground[:14][13] != 7 || tr.Kinds[:5][4].Grip != 7 {
		t.Fatal("what lies behind the lists is changed")
	}
	for i := range tr.Heights {
		tr.Heights[i] = greatest
	}
	for i := range tr.Ground {
		tr.Ground[i] = -9
	}
	for i := range tr.Kinds {
		tr.Kinds[i] = api.Kind{Grip: -1}
	}
	tr.Cell, tr.Cols, tr.Rows, tr.Corner = 0, 0, 0, api.V2{X: 9 * one}
	for _, kept := range []*field.Field{f, again} {
		holdField(t, kept, ground{plain}, draw(2), 60)
	}
}

// holdField holds all cells of a field, what is about them, and so many drawn places.
func holdField(t *testing.T, f *field.Field, g ground, d drawer, places int) {
	t.Helper()
	if cols, rows := f.Cells(); cols != g.Cols || rows != g.Rows || f.Side() != g.Cell {
		t.Fatalf("Cells are %d and %d, and Side is %d, not %d and %d, and %d", cols, rows, f.Side(), g.Cols, g.Rows, g.Cell)
	}
	for c := -1; c <= g.Cols; c++ {
		for r := -1; r <= g.Rows; r++ {
			holdCell(t, f, g, c, r)
		}
	}
	for range places {
		x, y := d.place(g.Corner.X, g.Cell, g.Cols), d.place(g.Corner.Y, g.Cell, g.Rows)
		holdPlace(t, f, g, x, y)
		// A place on the diagonal of its cell, as far as that goes on, and those next to it.
		_, r, dx, _ := g.where(x, y)
		y = g.Corner.Y + api.Fx(r)*g.Cell + dx
		for more := api.Fx(-1); more <= 1; more++ {
			holdPlace(t, f, g, x, y+more)
		}
	}
}

// Promises 12.1 to 12.4: drawn fields, small ones and great ones, in every call, and again in another order.
func TestDrawn(t *testing.T) {
	d := draw(3)
	for range 300 {
		tr := d.track(7)
		f := made(t, tr)
		holdField(t, f, ground{tr}, d, 40)
		holdField(t, f, ground{tr}, d, 3)
	}
	for range 4 {
		tr := d.track(64)
		holdField(t, made(t, tr), ground{tr}, d, 2000)
	}
}

// Promise 12.1: Cells and Side, for every number of columns and rows.
func TestCellsAndSide(t *testing.T) {
	for cols := 1; cols <= 64; cols++ {
		for rows := 1; rows <= 64; rows++ {
			tr := level(cols, rows)
			tr.Cell += api.Fx(cols*rows) * 3
			f := made(t, tr)
			if c, r := f.Cells(); c != cols || r != rows || f.Side() != tr.Cell {
				t.Fatalf("Cells are %d and %d, not %d and %d; Side is %d, not %d", c, r, cols, rows, f.Side(), tr.Cell)
			}
		}
	}
	for _, side := range []api.Fx{4 * one, 4*one + 1, 20*one - 1, 64*one - 1, 64 * one} {
		tr := level(1, 1)
		tr.Cell = side
		if got := made(t, tr).Side(); got != side {
			t.Fatalf("Side is %d, not %d", got, side)
		}
	}
}

// Promise 12.2: the chapter's example, and places about it.
func TestWhere(t *testing.T) {
	tr := level(2, 1)
	tr.Corner = api.V2{X: -one, Y: one}
	f := made(t, tr)
	holdWhere(t, f, 4*one, 3*one, 1, 0, one, 2*one)
	holdWhere(t, f, -one, one, 0, 0, 0, 0)
	holdWhere(t, f, 3*one-1, 5*one-1, 0, 0, 4*one-1, 4*one-1)
	holdWhere(t, f, 3*one, 5*one, 1, 0, 0, 4*one)
	holdWhere(t, f, 3*one+1, 5*one+1, 1, 0, 1, 4*one+1)
	holdWhere(t, f, 7*one, 99*one, 1, 0, 4*one, 98*one)
	holdWhere(t, f, 7*one+1, 0, 1, 0, 4*one+1, -one)
	holdWhere(t, f, -one-1, one-1, 0, 0, -1, -1)
	holdWhere(t, f, -9*one, -9*one, 0, 0, -8*one, -10*one)
}

// Promise 12.2: each cell's edges, which begin a cell and end the one ahead, but for the last one, which ends its cell.
func TestWhereEdges(t *testing.T) {
	sizes(func(cols, rows int) {
		for _, side := range []api.Fx{4 * one, 5*one + 1, 64 * one} {
			tr := level(cols, rows)
			tr.Cell = side
			f := made(t, tr)
			for c := range cols {
				x := tr.Corner.X + api.Fx(c)*side
				holdWhere(t, f, x, tr.Corner.Y, c, 0, 0, 0)
				holdWhere(t, f, x+side-1, tr.Corner.Y, c, 0, side-1, 0)
				holdWhere(t, f, x+side/2, tr.Corner.Y+1, c, 0, side/2, 1)
			}
			for r := range rows {
				y := tr.Corner.Y + api.Fx(r)*side
				holdWhere(t, f, tr.Corner.X, y, 0, r, 0, 0)
				holdWhere(t, f, tr.Corner.X+1, y+side-1, 0, r, 1, side-1)
			}
			endX, endY := tr.Corner.X+api.Fx(cols)*side, tr.Corner.Y+api.Fx(rows)*side
			for more := api.Fx(0); more < 3*side; more += side/2 + 1 {
				holdWhere(t, f, endX+more, endY+2*more, cols-1, rows-1, side+more, side+2*more)
				holdWhere(t, f, tr.Corner.X-more, tr.Corner.Y-2*more, 0, 0, -more, -2*more)
			}
		}
	})
}

// Promise 12.2: a coordinate beyond MaxExtent is replaced by the nearer bound, each by itself, wherever the field is.
func TestWhereBeyond(t *testing.T) {
	far := []api.Fx{most, most + 1, most + one, 1 << 62, greatest - 1, greatest}
	for _, corner := range []api.V2{{}, {X: most / 2, Y: -most / 2}, {X: -most / 2, Y: most / 2}, {X: 5, Y: -7}} {
		tr := level(3, 5)
		tr.Corner = corner
		f := made(t, tr)
		for _, n := range far {
			holdWhere(t, f, n, corner.Y, 2, 0, most-corner.X-8*one, 0)
			holdWhere(t, f, corner.X, n, 0, 4, 0, most-corner.Y-16*one)
			holdWhere(t, f, -n, -n, 0, 0, -most-corner.X, -most-corner.Y)
			holdWhere(t, f, n, -n-1, 2, 0, most-corner.X-8*one, -most-corner.Y)
			holdHeight(t, f, n, -n, 0)
		}
		holdWhere(t, f, most-1, 1-most, 2, 0, most-1-corner.X-8*one, 1-most-corner.Y)
		holdWhere(t, f, least, least, 0, 0, -most-corner.X, -most-corner.Y)
		holdWhere(t, f, greatest, least, 2, 0, most-corner.X-8*one, -most-corner.Y)
	}
	tr := hills(4, 3)
	f, g := made(t, tr), ground{tr}
	for _, n := range far {
		for _, x := range []api.Fx{n, -n, -n - 1, 0} {
			for _, y := range []api.Fx{n, -n, -n - 1, 9 * one} {
				holdPlace(t, f, g, x, y)
			}
		}
	}
}

// Promise 12.3: heights and the slopes of both triangles, by pen and paper.
func TestSlopes(t *testing.T) {
	tr := level(2, 2)
	tr.Heights = whole(0, 1, 3, -2, 2, 0, 0, -1, 3)
	f := made(t, tr)
	quarter := one / 4
	for _, cell := range []struct {
		c, r                     int
		base                     api.Fx
		lowerX, lowerY, upX, upY api.Fx // in quarters
	}{
		{0, 0, 0, 1, 1, 4, -2},
		{1, 0, one, 2, -3, -2, 1},
		{0, 1, -2 * one, 4, -3, -1, 2},
		{1, 1, 2 * one, -2, 3, 4, -3},
	} {
		holdBase(t, f, cell.c, cell.r, cell.base)
		holdSlopes(t, f, cell.c, cell.r, false, cell.lowerX*quarter, cell.lowerY*quarter)
		holdSlopes(t, f, cell.c, cell.r, true, cell.upX*quarter, cell.upY*quarter)
	}
}

// Promise 12.3: a slope is rounded to the nearest number, and to the even one of two that are equally near.
func TestSlopesRounded(t *testing.T) {
	for _, c := range []struct{ side, way, want api.Fx }{
		{64 * one, 1, 0}, {64 * one, 31, 0}, {64 * one, 32, 0}, {64 * one, 33, 1}, {64 * one, 95, 1}, {64 * one, 96, 2}, {64 * one, 97, 2}, {64 * one, 160, 2}, {64 * one, 161, 3},
		{4 * one, 1, 0}, {4 * one, 2, 0}, {4 * one, 3, 1}, {4 * one, 5, 1}, {4 * one, 6, 2}, {4 * one, 10, 2},
		{5 * one, 2, 0}, {5 * one, 3, 1}, {5 * one, one, 858993459}, {6 * one, one, 715827883}, {7 * one, 5 * one, 3067833783},
		{4 * one, 4 * one, one}, {64 * one, 64 * one, one}, {64 * one, 64*one - 32, one}, {64 * one, 64*one - 33, one - 1}, {64*one - 1, 64*one - 1, one},
	} {
		for _, sign := range []api.Fx{1, -1} {
			tr := level(1, 1)
			tr.Cell = c.side
			way, want := sign*c.way, sign*c.want
			tr.Heights = []api.Fx{0, way, 0, way}
			f := made(t, tr)
			holdSlopes(t, f, 0, 0, false, want, 0)
			holdSlopes(t, f, 0, 0, true, want, 0)
			tr.Heights = []api.Fx{way, way, 0, 0}
			f = made(t, tr)
			holdSlopes(t, f, 0, 0, false, 0, -want)
			holdSlopes(t, f, 0, 0, true, 0, -want)
		}
	}
}

// Promise 12.3: heights that are as far apart as bounds allow, and as high.
func TestSlopesFarthest(t *testing.T) {
	d := draw(4)
	for range 2000 {
		tr := level(1+d.IntN(8), 1+d.IntN(8))
		tr.Cell = d.side()
		up := d.IntN(2)
		for i := range tr.Heights {
			col, row := i%(tr.Cols+1), i/(tr.Cols+1)
			tr.Heights[i] = top - api.Fx((col+row+up)%2)*tr.Cell
			if d.IntN(2) == 0 {
				tr.Heights[i] += api.Fx((col+row+up)%2) * d.number(0, 70)
			}
		}
		if d.IntN(2) == 0 {
			for i := range tr.Heights {
				tr.Heights[i] = -tr.Heights[i]
			}
		}
		f, g := made(t, tr), ground{tr}
		holdField(t, f, g, d, 8)
		a, b := f.Slopes(nil, 0, 0, d.IntN(2) == 0)
		if apart(a, 0, one) || apart(b, 0, one) {
			t.Fatalf("slopes %d and %d of %v", a, b, told(tr))
		}
	}
}

// Promise 12.3: nothing of a cell that does not exist, though heights may lie where its own would be.
func TestCellsThatDoNotExist(t *testing.T) {
	sizes(func(cols, rows int) {
		f := made(t, raised(cols, rows, func(c, r int) api.Fx { return 9*one + api.Fx(c)*2*one + api.Fx(r)*3*one }))
		gone := func(c, r int) {
			holdBase(t, f, c, r, 0)
			holdSlopes(t, f, c, r, false, 0, 0)
			holdSlopes(t, f, c, r, true, 0, 0)
		}
		wrongCols := []int{-1, -2, -cols, cols, cols + 1, cols * 2, 64, 1 << 32, -1 << 32, 1 << 62, math.MaxInt, math.MinInt, math.MaxInt - 1}
		wrongRows := []int{-1, -2, -rows, rows, rows + 1, rows * 2, 64, 1 << 32, -1 << 32, 1 << 62, math.MaxInt, math.MinInt, math.MaxInt - 1}
		for _, c := range wrongCols {
			for r := range rows {
				gone(c, r)
			}
			for _, r := range wrongRows {
				gone(c, r)
			}
		}
		for _, r := range wrongRows {
			for c := range cols {
				gone(c, r)
			}
		}
		for c := range cols {
			for r := range rows {
				holdBase(t, f, c, r, 9*one+api.Fx(c)*2*one+api.Fx(r)*3*one)
				holdSlopes(t, f, c, r, false, half, 3*one/4)
				holdSlopes(t, f, c, r, true, half, 3*one/4)
			}
		}
	})
}

// Promise 12.4: the chapter's example: both triangles, and the diagonal, which belongs to the lower one.
func TestHeight(t *testing.T) {
	f := made(t, slope())
	holdHeight(t, f, 2*one, one, one)
	holdHeight(t, f, 3*one, 4*one, 3*one)
	holdHeight(t, f, 0, 0, 0)
	holdHeight(t, f, 4*one, 4*one, 4*one)
	holdHeight(t, f, 4*one, 0, 0)
	holdHeight(t, f, 0, 4*one, 0)
	holdHeight(t, f, 2*one, 2*one, 2*one)
	holdHeight(t, f, 2*one, 2*one-1, 2*one-1)
	holdHeight(t, f, 2*one, 2*one+1, 2*one)
	// Beyond the rectangle the triangles go on.
	holdHeight(t, f, 9*one, one, one)
	holdHeight(t, f, 6*one, 7*one, 6*one)
	holdHeight(t, f, 7*one, 6*one, 6*one)
	holdHeight(t, f, -one, 2*one, -one)
	holdHeight(t, f, -one, -2*one, -2*one)
	holdHeight(t, f, 2*one, -3*one, -3*one)
	holdHeight(t, f, most, most, most)
	holdHeight(t, f, most+1, greatest, most)
	holdHeight(t, f, least, 0, -most)
	holdHeight(t, f, greatest, least, -most)
}

// Promise 12.4: the stage's field of two cells, of which each has triangles of its own.
func TestHeightOfCells(t *testing.T) {
	tr := level(2, 1)
	tr.Corner = api.V2{X: -one, Y: one}
	tr.Heights = whole(0, 2, 2, 0, 0, 4)
	f := made(t, tr)
	holdHeight(t, f, 5*one, 2*one, 5*half) // lower, of the slopes 0 and 1/2
	holdHeight(t, f, 4*one, 3*one, 2*one)  // upper, of the slopes 1 and -1/2
	holdHeight(t, f, 2*one, 2*one, one)    // lower, of the slopes 1/2 and -1/2
	holdHeight(t, f, one, 4*one, 0)        // upper, of the slopes 0 and 0
	holdHeight(t, f, 3*one-1, one, 2*one)  // from a half of a part less to the even one
	holdHeight(t, f, 3*one, one, 2*one)
}

// Promise 12.4: each product is rounded, as the slope was.
func TestHeightRounded(t *testing.T) {
	tr := slope()
	tr.Cell = 5 * one
	tr.Heights = whole(0, 1, 0, 1)
	f := made(t, tr)
	holdHeight(t, f, one, 0, 858993459)
	holdHeight(t, f, 5*one, 0, one-1)
	holdHeight(t, f, 5*one, 5*one, one-1)
	holdHeight(t, f, half, 0, 429496730)    // from 429496729 and a half to the even one
	holdHeight(t, f, 3*half, 0, 1288490188) // from 1288490188 and a half to the even one
	tr.Heights = []api.Fx{1, one + 1, one + 1, 2*one + 1}
	f = made(t, tr)
	holdHeight(t, f, half, half, 1+2*429496730) // each by itself, and then the sum
	holdHeight(t, f, half, 3*half, 1+429496730+1288490188)
}

// Promise 12.4: the normals of the chapter's field, of either triangle, and of level ground.
func TestNormal(t *testing.T) {
	f := made(t, slope())
	const n = 3037000500 // 1 divided by the root of 2, which is rounded down
	lower, upper := api.V3{Y: -n, Z: n}, api.V3{X: -n, Z: n}
	holdNormal(t, f, 2*one, one, lower)
	holdNormal(t, f, 3*one, 4*one, upper)
	holdNormal(t, f, 2*one, 2*one, lower)
	holdNormal(t, f, 2*one, 2*one-1, lower)
	holdNormal(t, f, 2*one, 2*one+1, upper)
	holdNormal(t, f, 0, 0, lower)
	holdNormal(t, f, 4*one, 4*one, lower)
	holdNormal(t, f, -9*one, -9*one, lower)
	holdNormal(t, f, greatest, greatest, lower)
	holdNormal(t, f, greatest, least, lower)
	holdNormal(t, f, least, greatest, upper)
	sizes(func(cols, rows int) {
		f := made(t, level(cols, rows))
		for _, x := range []api.Fx{0, 5 * one, -most, greatest} {
			holdNormal(t, f, x, 7*one-x/2, api.V3{Z: one})
		}
	})
	steep := made(t, raised(2, 2, func(c, r int) api.Fx { return api.Fx(c-r) * 4 * one }))
	holdNormal(t, steep, one, 5*one, api.V3{X: -2479700525, Y: 2479700525, Z: 2479700525}) // 1 divided by the root of 3
}

// Promise 12.4: the kind of each cell, up to its edges, and beyond the rectangle that of the nearest cell.
func TestKind(t *testing.T) {
	sizes(func(cols, rows int) {
		tr := hills(cols, rows)
		f := made(t, tr)
		for i, kind := range tr.Ground {
			x, y := tr.Corner.X+api.Fx(i%cols)*tr.Cell, tr.Corner.Y+api.Fx(i/cols)*tr.Cell
			holdKind(t, f, x, y, kind)
			holdKind(t, f, x+tr.Cell-1, y+tr.Cell-1, kind)
			holdKind(t, f, x+1, y+tr.Cell-1, kind)
			holdKind(t, f, x+tr.Cell-1, y+1, kind)
		}
		last := cols * (rows - 1)
		for more := api.Fx(0); more < 9*one; more += 2*one + 3 {
			x, y := tr.Corner.X+api.Fx(cols)*tr.Cell+more, tr.Corner.Y+api.Fx(rows)*tr.Cell+more
			holdKind(t, f, x, y, tr.Ground[len(tr.Ground)-1])
			holdKind(t, f, x, tr.Corner.Y-more, tr.Ground[cols-1])
			holdKind(t, f, tr.Corner.X-more, y, tr.Ground[last])
			holdKind(t, f, tr.Corner.X-more, tr.Corner.Y-more, tr.Ground[0])
		}
		holdKind(t, f, greatest, greatest, tr.Ground[len(tr.Ground)-1])
		holdKind(t, f, greatest, least, tr.Ground[cols-1])
		holdKind(t, f, least, greatest, tr.Ground[last])
		holdKind(t, f, least, least, tr.Ground[0])
	})
}

// Promise 12.5: corners have the given heights: exactly where a cell begins, and everywhere where slopes are exact; else up to what the rounded slopes lack along the last cells, which is at most half a part for each unit of a side, and half a part for the product, for each of both slopes.
func TestCorners(t *testing.T) {
	d := draw(5)
	for i := range 400 {
		tr := d.track(9)
		exact := i%2 == 0
		if exact {
			tr.Cell = 4 * one << d.IntN(5)
			tr.Heights = d.heights(tr)
			for i := range tr.Heights {
				tr.Heights[i] &^= 63
			}
		}
		f := made(t, tr)
		bound := tr.Cell/one + 2
		for c := range tr.Cols + 1 {
			for r := range tr.Rows + 1 {
				want := ground{tr}.corner(c, r)
				x, y := tr.Corner.X+api.Fx(c)*tr.Cell, tr.Corner.Y+api.Fx(r)*tr.Cell
				holdM(t, func(m *fx.M) {
					got := f.Height(m, x, y)
					if got != want && (exact || c < tr.Cols && r < tr.Rows) || apart(got, want, bound) {
						t.Fatalf("the height of corner (%d, %d) is %d, not %d, for a side of %d", c, r, got, want, tr.Cell)
					}
				})
			}
		}
	}
}

// Promise 12.5: nothing is noted, wherever places are; normals point upward, and are 1 long up to a few parts.
func TestUpward(t *testing.T) {
	d := draw(6)
	for range 300 {
		tr := d.track(5)
		f := made(t, tr)
		for range 40 {
			x, y := d.place(tr.Corner.X, tr.Cell, tr.Cols), d.place(tr.Corner.Y, tr.Cell, tr.Rows)
			m := &fx.M{}
			up := f.Normal(m, x, y)
			f.Height(m, x, y)
			long := m.Add(m.Add(m.Mul(up.X, up.X), m.Mul(up.Y, up.Y)), m.Mul(up.Z, up.Z))
			if m.Over || up.Z < one/2 || apart(long, one, 9) {
				t.Fatalf("Normal(%d, %d) = %v, whose square is %d; Over is %v", x, y, up, long, m.Over)
			}
		}
	}
}

// Rule R1: a nil field answers zeros, whatever it is asked, and notes nothing.
func TestNil(t *testing.T) {
	var f *field.Field
	if cols, rows := f.Cells(); cols != 0 || rows != 0 || f.Side() != 0 {
		t.Fatalf("Cells are %d and %d, and Side is %d", cols, rows, f.Side())
	}
	for _, n := range []api.Fx{least, -most, -one, -1, 0, 1, one, most, greatest} {
		for _, k := range []api.Fx{least, -1, 0, 5 * one, greatest} {
			holdWhere(t, f, n, k, 0, 0, 0, 0)
			holdHeight(t, f, n, k, 0)
			holdNormal(t, f, n, k, api.V3{})
			holdKind(t, f, n, k, 0)
			holdBase(t, f, int(n), int(k), 0)
			holdSlopes(t, f, int(n), int(k), false, 0, 0)
			holdSlopes(t, f, int(n), int(k), true, 0, 0)
		}
	}
}

// Rule R1: every call returns, whatever it is given.
func TestTotal(t *testing.T) {
	wild := []api.Fx{least, least + 1, -most - 1, -1, 0, 1, one, most + 1, greatest}
	counts := []int{math.MinInt, -1, 0, 1, 2, 64, 65, math.MaxInt}
	d := draw(7)
	number := func() api.Fx { return wild[d.IntN(len(wild))] }
	for range 100000 {
		tr := api.Track{Cell: number(), Cols: counts[d.IntN(len(counts))], Rows: counts[d.IntN(len(counts))], Corner: api.V2{X: number(), Y: number()}}
		if d.IntN(2) == 0 {
			tr.Cols, tr.Rows = 1, 1+d.IntN(2)
		}
		for range d.IntN(8) {
			tr.Heights = append(tr.Heights, number())
		}
		for range d.IntN(4) {
			tr.Ground = append(tr.Ground, counts[d.IntN(len(counts))])
		}
		for range d.IntN(4) {
			tr.Kinds = append(tr.Kinds, api.Kind{Grip: number(), Drag: number()})
		}
		holdNew(t, tr, fault(tr))
	}
	f := made(t, hills(3, 2))
	for _, m := range []*fx.M{nil, {}} {
		for _, x := range wild {
			for _, y := range wild {
				f.Where(x, y)
				f.Height(m, x, y)
				f.Normal(m, x, y)
				f.Kind(x, y)
			}
		}
		for _, c := range counts {
			for _, r := range counts {
				f.Base(c, r)
				f.Slopes(m, c, r, c < r)
			}
		}
	}
}

// Rules R2 and R5: a refused track leaves fields as they are, and what is told of one does not change by asking.
func TestAskedAgain(t *testing.T) {
	tr := hills(4, 4)
	f, g := made(t, tr), ground{hills(4, 4)}
	other := hills(2, 9)
	other.Corner = api.V2{X: 50 * one}
	for range 3 {
		holdField(t, f, g, draw(8), 40)
		wrong := hills(4, 4)
		wrong.Heights[7] = greatest
		holdNew(t, wrong, api.ErrRange)
		holdField(t, made(t, other), ground{other}, draw(9), 40)
	}
}
