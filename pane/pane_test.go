package pane_test

import (
	"math"
	"math/big"
	"math/rand/v2"
	"reflect"
	"slices"
	"testing"

	"chicane/api"
	"chicane/fx"
	"chicane/pane"
)

const (
	one      = api.One
	half     = api.One / 2
	most     = api.One << 20
	greatest = api.Fx(math.MaxInt64)
	least    = api.Fx(math.MinInt64)
)

// whole makes a list of integers.
func whole(n ...api.Fx) []api.Fx {
	l := []api.Fx{}
	for _, v := range n {
		l = append(l, v*one)
	}
	return l
}

// chapter is the pane of the chapter's first examples.
func chapter() api.Pane {
	return api.Pane{Xs: whole(0, 1, 3), Ys: whole(0, 2), Rows: [][]api.Fx{whole(0, 1, 1), whole(4, 4, 8)}}
}

// grid makes a valid pane of so many columns and rows (if there may be as many), whose positions are the integers from 0 on, and whose values are all different.
func grid(columns, rows int) api.Pane {
	p := api.Pane{}
	for k := range columns {
		p.Xs = append(p.Xs, api.Fx(k)*one)
	}
	for i := range rows {
		p.Ys = append(p.Ys, api.Fx(i)*one)
		row := []api.Fx{}
		for k := range columns {
			row = append(row, api.Fx(i*columns+k-20)*one)
		}
		p.Rows = append(p.Rows, row)
	}
	return p
}

// cloned is a pane in memory of its own.
func cloned(p api.Pane) api.Pane {
	p = api.Pane{Xs: slices.Clone(p.Xs), Ys: slices.Clone(p.Ys), Rows: slices.Clone(p.Rows)}
	for i, row := range p.Rows {
		p.Rows[i] = slices.Clone(row)
	}
	return p
}

// changed is a pane that a function has changed in memory of its own.
func changed(p api.Pane, change func(p *api.Pane)) api.Pane {
	p = cloned(p)
	change(&p)
	return p
}

// sizes are some sizes of valid panes: the least, the greatest, and some between them.
func sizes() [][2]int {
	return [][2]int{{2, 2}, {2, 3}, {3, 2}, {5, 4}, {2, 32}, {32, 2}, {32, 32}}
}

// places calls with a name and a place for each number of a pane.
func places(p *api.Pane, call func(list string, n *api.Fx)) {
	for k := range p.Xs {
		call("X", &p.Xs[k])
	}
	for i := range p.Ys {
		call("Y", &p.Ys[i])
	}
	for _, row := range p.Rows {
		for k := range row {
			call("value", &row[k])
		}
	}
}

// drawer draws by a fixed rule.
type drawer struct{ *rand.Rand }

func draw(seed uint64) drawer { return drawer{rand.New(rand.NewPCG(9, seed))} }

// number draws a number whose size is at most a bound, of every length.
func (d drawer) number(bound api.Fx) api.Fx {
	bound >>= d.IntN(54)
	return api.Fx(d.Int64N(2*int64(bound)+1)) - bound
}

// anything draws a number that may be anything.
func (d drawer) anything() api.Fx {
	return api.Fx(int64(d.Uint64()) >> (d.IntN(4) * d.IntN(21)))
}

// list draws a list of numbers.
func (d drawer) list(count int, next func() api.Fx) []api.Fx {
	l := []api.Fx{}
	for range count {
		l = append(l, next())
	}
	return l
}

// positions draws positions of a valid pane, at times close to each other.
func (d drawer) positions() []api.Fx {
	bound := most
	if d.IntN(2) == 0 {
		bound = 1 << (6 + d.IntN(44))
	}
	count := d.IntN(4)
	if d.IntN(8) == 0 {
		count = d.IntN(api.MaxRow - 1)
	}
	l := d.list(count, func() api.Fx { return d.number(bound) })
	l = append(l, -bound, bound)
	slices.Sort(l)
	return slices.Compact(l)
}

// valid draws a valid pane; in some the values are the bounds alone.
func (d drawer) valid() api.Pane {
	p := api.Pane{Xs: d.positions(), Ys: d.positions()}
	next := func() api.Fx { return d.number(most) }
	if d.IntN(4) == 0 {
		next = func() api.Fx { return most * api.Fx(1-2*d.IntN(2)) }
	}
	for range p.Ys {
		p.Rows = append(p.Rows, d.list(len(p.Xs), next))
	}
	return p
}

// wild draws a pane of any shape, whose numbers may be anything.
func (d drawer) wild() api.Pane {
	p := api.Pane{Xs: d.list(d.IntN(5), d.anything), Ys: d.list(d.IntN(5), d.anything)}
	for range d.IntN(5) {
		p.Rows = append(p.Rows, d.list(d.IntN(5), d.anything))
	}
	return p
}

// spoilt draws a pane that had up to three faults put into it.
func (d drawer) spoilt() api.Pane {
	p := d.valid()
	for range d.IntN(4) {
		i := d.IntN(len(p.Rows))
		switch d.IntN(8) {
		case 0:
			p.Xs[d.IntN(len(p.Xs))] = p.Xs[d.IntN(len(p.Xs))]
		case 1:
			p.Ys[d.IntN(len(p.Ys))] = p.Ys[d.IntN(len(p.Ys))]
		case 2:
			p.Xs[d.IntN(len(p.Xs))] = d.number(most + 2)
		case 3:
			p.Ys[d.IntN(len(p.Ys))] = d.anything()
		case 4:
			p.Rows[i] = append(p.Rows[i], d.anything())
		case 5:
			p.Rows[i] = p.Rows[i][:d.IntN(len(p.Rows[i])+1)]
		case 6:
			if k := len(p.Rows[i]) - 1; k >= 0 {
				p.Rows[i][d.IntN(k+1)] = most + 1 - 2*(most+1)*api.Fx(d.IntN(2))
			}
		default:
			p.Rows = append(p.Rows, d.list(len(p.Xs), d.anything))
		}
	}
	return p
}

// near are positions, the numbers next to them, one between each two, and numbers far off.
func near(d drawer, l []api.Fx) []api.Fx {
	at := []api.Fx{least, -most - 1, 0, most + 1, greatest}
	for i, n := range l {
		at = append(at, n-1, n, n+1)
		if i > 0 {
			at = append(at, l[i-1]+api.Fx(d.Int64N(int64(n-l[i-1]))))
		}
	}
	return at
}

// drawn calls with valid panes that are drawn, and with pairs of numbers near their positions.
func drawn(seed uint64, panes int, call func(p api.Pane, x, y api.Fx)) {
	d := draw(seed)
	for range panes {
		p := d.valid()
		xs, ys := near(d, p.Xs), near(d, p.Ys)
		for range 60 {
			call(p, xs[d.IntN(len(xs))], ys[d.IntN(len(ys))])
		}
	}
}

// quotient is a * b / c, to the nearest number, and to the even one of two that are equally near; c is greater than 0. It reckons in big integers: another reckoning than fx's own.
func quotient(a, b, c api.Fx) api.Fx {
	below := new(big.Int).Mul(big.NewInt(int64(a)), big.NewInt(int64(b)))
	below, rest := below.DivMod(below, big.NewInt(int64(c)), new(big.Int))
	order := rest.Lsh(rest, 1).Cmp(big.NewInt(int64(c)))
	if order > 0 || order == 0 && below.Bit(0) == 1 {
		below.Add(below, big.NewInt(1))
	}
	return api.Fx(below.Int64())
}

// line reckons the table of some Xs and Ys, for a valid one, segment by segment.
func line(xs, ys []api.Fx, x api.Fx) api.Fx {
	for i := 1; i < len(xs); i++ {
		if x < xs[i] {
			t := quotient(max(x, xs[0])-xs[i-1], one, xs[i]-xs[i-1])
			return ys[i-1] + quotient(ys[i]-ys[i-1], t, one)
		}
	}
	return ys[len(ys)-1]
}

// value reckons Eval for a valid pane, by all rows.
func value(p api.Pane, x, y api.Fx) api.Fx {
	across := []api.Fx{}
	for _, row := range p.Rows {
		across = append(across, line(p.Xs, row, x))
	}
	return line(p.Ys, across, y)
}

// fault reckons Right: whether each fault is there, and then the first of them.
func fault(p api.Pane) api.Errno {
	shape, reach, order := len(p.Rows) != len(p.Ys), false, false
	for _, l := range [][]api.Fx{p.Xs, p.Ys} {
		shape = shape || len(l) < 2 || len(l) > 32
		for i := range l {
			order = order || i > 0 && !(l[i] > l[i-1])
		}
	}
	for _, row := range p.Rows {
		shape = shape || len(row) != len(p.Xs)
	}
	bound := new(big.Int).Lsh(big.NewInt(1), 52)
	for _, l := range append([][]api.Fx{p.Xs, p.Ys}, p.Rows...) {
		for _, n := range l {
			reach = reach || new(big.Int).Abs(big.NewInt(int64(n))).Cmp(bound) > 0
		}
	}
	switch {
	case shape:
		return api.ErrShape
	case reach:
		return api.ErrRange
	case order:
		return api.ErrOrder
	}
	return api.OK
}

// holdRight holds Right, and that Eval and Bounds tell nothing of a pane that is not valid, and note nothing.
func holdRight(t *testing.T, p api.Pane, want api.Errno) {
	t.Helper()
	if got := pane.Right(p); got != want {
		t.Fatalf("Right(%v) = %d, not %d", p, got, want)
	}
	if want == api.OK {
		return
	}
	for _, n := range []api.Fx{least, 0, one, greatest} {
		holdEval(t, p, n, n, 0)
		holdEval(t, p, n, 0, 0)
		holdEval(t, p, 0, n, 0)
	}
	holdBounds(t, p, 0, 0)
}

func holdRow(t *testing.T, p api.Pane, i int, want ...api.Dot) {
	t.Helper()
	if got := pane.Row(p, i); !slices.Equal(got, want) {
		t.Fatalf("Row(%v, %d) = %v, not %v", p, i, got, want)
	}
}

// holdEval makes the call with an M that is new, with one that has noted something already, and with none: all tell the same, nothing is noted (promise 9.3), and Over stays.
func holdEval(t *testing.T, p api.Pane, x, y, want api.Fx) {
	t.Helper()
	fresh, old := &fx.M{}, &fx.M{Over: true}
	if got := pane.Eval(fresh, p, x, y); got != want || fresh.Over {
		t.Fatalf("Eval(%v, %d, %d) = %d and Over %v, not %d", p, x, y, got, fresh.Over, want)
	}
	if got := pane.Eval(old, p, x, y); got != want || !old.Over {
		t.Fatalf("Eval(%v, %d, %d) = %d and Over %v where Over was true, not %d", p, x, y, got, old.Over, want)
	}
	if got := pane.Eval(nil, p, x, y); got != want {
		t.Fatalf("Eval(%v, %d, %d) = %d for nil, not %d", p, x, y, got, want)
	}
}

func holdBounds(t *testing.T, p api.Pane, low, high api.Fx) {
	t.Helper()
	if a, b := pane.Bounds(p); a != low || b != high {
		t.Fatalf("Bounds(%v) = %d and %d, not %d and %d", p, a, b, low, high)
	}
}

// Promise 9.1: the number of columns and of rows.
func TestRightCounts(t *testing.T) {
	holdRight(t, api.Pane{}, api.ErrShape)
	holdRight(t, chapter(), api.OK)
	for columns := range 36 {
		for rows := range 36 {
			want := api.OK
			if columns < 2 || columns > 32 || rows < 2 || rows > 32 {
				want = api.ErrShape
			}
			holdRight(t, grid(columns, rows), want)
		}
	}
	holdRight(t, grid(70000, 2), api.ErrShape)
	holdRight(t, grid(2, 70000), api.ErrShape)
}

// Promise 9.1: as many rows as Ys, and in every row as many values as Xs.
func TestRightShape(t *testing.T) {
	for _, size := range sizes() {
		p := grid(size[0], size[1])
		holdRight(t, changed(p, func(p *api.Pane) { p.Rows = nil }), api.ErrShape)
		holdRight(t, changed(p, func(p *api.Pane) { p.Rows = p.Rows[1:] }), api.ErrShape)
		holdRight(t, changed(p, func(p *api.Pane) { p.Rows = append(p.Rows, p.Rows[0]) }), api.ErrShape)
		holdRight(t, changed(p, func(p *api.Pane) { p.Ys = append(p.Ys, 40*one) }), api.ErrShape)
		holdRight(t, changed(p, func(p *api.Pane) { p.Ys = p.Ys[1:] }), api.ErrShape)
		holdRight(t, changed(p, func(p *api.Pane) { p.Ys = nil }), api.ErrShape)
		holdRight(t, changed(p, func(p *api.Pane) { p.Xs = append(p.Xs, 40*one) }), api.ErrShape)
		holdRight(t, changed(p, func(p *api.Pane) { p.Xs = p.Xs[1:] }), api.ErrShape)
		holdRight(t, changed(p, func(p *api.Pane) { p.Xs = nil }), api.ErrShape)
		for i := range p.Rows {
			holdRight(t, changed(p, func(p *api.Pane) { p.Rows[i] = nil }), api.ErrShape)
			holdRight(t, changed(p, func(p *api.Pane) { p.Rows[i] = p.Rows[i][1:] }), api.ErrShape)
			holdRight(t, changed(p, func(p *api.Pane) { p.Rows[i] = append(p.Rows[i], 0) }), api.ErrShape)
		}
	}
}

// Promise 9.1: positions and values at the bounds and beyond them, at every place.
func TestRightRange(t *testing.T) {
	beyond := []api.Fx{most + 1, -most - 1, most << 1, greatest, least, least + 1, most + 1<<62}
	for _, size := range sizes() {
		p := grid(size[0], size[1])
		places(&p, func(list string, n *api.Fx) {
			before := *n
			for _, *n = range beyond {
				holdRight(t, p, api.ErrRange)
			}
			for _, *n = range []api.Fx{most, -most} {
				holdRight(t, p, fault(p))
				if list == "value" {
					holdRight(t, p, api.OK)
				}
			}
			*n = before
		})
		holdRight(t, p, api.OK)
		p.Xs[0], p.Ys[0] = -most, -most
		p.Xs[size[0]-1], p.Ys[size[1]-1] = most, most
		holdRight(t, p, api.OK)
	}
}

// Promise 9.1: positions that do not rise, at every place, and positions that rise by one part.
func TestRightOrder(t *testing.T) {
	for _, size := range sizes() {
		p := grid(size[0], size[1])
		for _, l := range [][]api.Fx{p.Xs, p.Ys} {
			for i := 1; i < len(l); i++ {
				before := l[i]
				for _, l[i] = range []api.Fx{l[i-1], l[i-1] - 1, -most} {
					holdRight(t, p, api.ErrOrder)
				}
				l[i] = l[i-1] + 1
				holdRight(t, p, api.OK)
				l[i] = before
			}
		}
	}
	falls := whole(1, 0)
	holdRight(t, changed(chapter(), func(p *api.Pane) { p.Ys = falls }), api.ErrOrder)
	holdRight(t, changed(grid(2, 2), func(p *api.Pane) { p.Xs = falls }), api.ErrOrder)
	holdRight(t, changed(grid(2, 2), func(p *api.Pane) { p.Xs, p.Ys = falls, falls }), api.ErrOrder)
}

// Promise 9.1: of several faults the shape's is told, and then the range's, wherever they are.
func TestRightFirst(t *testing.T) {
	short := func(p *api.Pane) { p.Rows[1] = p.Rows[1][1:] }
	far := func(p *api.Pane) { p.Rows[1][2] = most + 1 }
	farther := func(p *api.Pane) { p.Ys[1] = least }
	still := func(p *api.Pane) { p.Xs[1] = p.Xs[0] }
	both := func(changes ...func(p *api.Pane)) api.Pane {
		p := cloned(chapter())
		for _, change := range changes {
			change(&p)
		}
		return p
	}
	holdRight(t, both(still), api.ErrOrder)
	holdRight(t, both(far), api.ErrRange)
	holdRight(t, both(still, far), api.ErrRange)
	holdRight(t, both(still, farther), api.ErrRange)
	holdRight(t, both(still, short), api.ErrShape)
	holdRight(t, both(farther, short), api.ErrShape)
	holdRight(t, both(still, far, farther, short), api.ErrShape)
	d := draw(1)
	seen := map[api.Errno]int{}
	for range 20000 {
		p := d.spoilt()
		holdRight(t, p, fault(p))
		seen[fault(p)]++
		p = d.wild()
		holdRight(t, p, fault(p))
	}
	for _, e := range []api.Errno{api.OK, api.ErrShape, api.ErrRange, api.ErrOrder} {
		if seen[e] < 500 {
			t.Fatalf("error %d was drawn %d times", e, seen[e])
		}
	}
}

// Promise 9.2: the points of every row.
func TestRow(t *testing.T) {
	holdRow(t, chapter(), 0, api.Dot{}, api.Dot{X: one, Y: one}, api.Dot{X: 3 * one, Y: one})
	holdRow(t, chapter(), 1, api.Dot{Y: 4 * one}, api.Dot{X: one, Y: 4 * one}, api.Dot{X: 3 * one, Y: 8 * one})
	for _, size := range sizes() {
		p := grid(size[0], size[1])
		for i := range size[1] {
			want := []api.Dot{}
			for k := range size[0] {
				want = append(want, api.Dot{X: api.Fx(k) * one, Y: api.Fx(i*size[0]+k-20) * one})
			}
			holdRow(t, p, i, want...)
		}
	}
}

// Promise 9.2: nothing for a row that does not exist.
func TestRowNone(t *testing.T) {
	for _, p := range []api.Pane{{}, {Xs: whole(0, 1), Ys: whole(0, 1)}, chapter(), grid(32, 32), grid(3, 70)} {
		for _, i := range []int{math.MinInt, -2, -1, len(p.Rows), len(p.Rows) + 1, math.MaxInt} {
			holdRow(t, p, i)
		}
	}
}

// Promise 9.2: as many points as there are of both, whatever else is not valid.
func TestRowLengths(t *testing.T) {
	p := api.Pane{Xs: whole(5, 3, 5), Rows: [][]api.Fx{nil, whole(7), whole(7, 8, 9), {1, least, greatest, 4}}}
	holdRow(t, p, 0)
	holdRow(t, p, 1, api.Dot{X: 5 * one, Y: 7 * one})
	holdRow(t, p, 2, api.Dot{X: 5 * one, Y: 7 * one}, api.Dot{X: 3 * one, Y: 8 * one}, api.Dot{X: 5 * one, Y: 9 * one})
	holdRow(t, p, 3, api.Dot{X: 5 * one, Y: 1}, api.Dot{X: 3 * one, Y: least}, api.Dot{X: 5 * one, Y: greatest})
	p.Xs = nil
	for i := range p.Rows {
		holdRow(t, p, i)
	}
	d := draw(2)
	for range 20000 {
		p := d.wild()
		for i, row := range p.Rows {
			want := []api.Dot{}
			for k := 0; k < len(p.Xs) && k < len(row); k++ {
				want = append(want, api.Dot{X: p.Xs[k], Y: row[k]})
			}
			holdRow(t, p, i, want...)
		}
	}
}

// Promise 9.2: the chapter's values, at the positions, between them, and beyond them.
func TestEval(t *testing.T) {
	for _, c := range []struct{ x, y, want api.Fx }{
		{2 * one, one, one * 7 / 2}, {0, 0, 0}, {half, 0, half}, {one, 0, one}, {3 * one, 0, one},
		{2 * one, 2 * one, 6 * one}, {0, one, 2 * one}, {one, one, one * 5 / 2}, {3 * one, one, one * 9 / 2},
		{9 * one, 9 * one, 8 * one}, {-one, -one, 0}, {9 * one, -one, one}, {-one, 9 * one, 4 * one},
		{2 * one, 9 * one, 6 * one}, {half, -9 * one, half}, {9 * one, half, one * 11 / 4}, {-9 * one, half, one},
		{least, least, 0}, {greatest, least, one}, {least, greatest, 4 * one}, {greatest, greatest, 8 * one},
	} {
		holdEval(t, chapter(), c.x, c.y, c.want)
	}
	p := api.Pane{Xs: whole(0, 1), Ys: whole(0, 1), Rows: [][]api.Fx{whole(0, 2), whole(4, 6)}}
	holdEval(t, p, half, half, 3*one)
	holdEval(t, p, one/4, half, one*5/2)
	holdEval(t, p, half, one/4, 2*one)
}

// Promise 9.2: at every column and row its own value.
func TestEvalPlaces(t *testing.T) {
	for _, size := range sizes() {
		p := grid(size[0], size[1])
		for i, row := range p.Rows {
			for k, want := range row {
				holdEval(t, p, p.Xs[k], p.Ys[i], want)
			}
		}
	}
}

// Promise 9.2: each row's value is rounded, and then the value between both, a half to the even number.
func TestEvalRounded(t *testing.T) {
	p := api.Pane{Xs: []api.Fx{0, 2}, Ys: []api.Fx{0, 2}, Rows: [][]api.Fx{{0, 1}, {1, 2}}}
	// Half a part is 0: the rows make 0 and 1, and the half between both is 0 again; the exact value would be 1.
	holdEval(t, p, 1, 1, 0)
	p.Rows = [][]api.Fx{{0, 3}, {1, 2}}
	// The rows make 2 (3/2 parts are 2) and 1, and 2 less half a part is 2; the exact value would be 3/2.
	holdEval(t, p, 1, 1, 2)
	p.Rows = [][]api.Fx{{0, 1}, {2, 0}}
	// The rows make 0 and 1, and these make 0; the columns first would make 1 and 1, and these 1.
	holdEval(t, p, 1, 1, 0)
	p = api.Pane{Xs: []api.Fx{0, 3}, Ys: []api.Fx{0, 3}, Rows: [][]api.Fx{{0, 3 * one}, {3 * one, 6 * one}}}
	// A third is 1431655765 parts, and the quotient is rounded ahead of the products.
	third := (one - 1) / 3
	holdEval(t, p, 1, 0, 3*third)
	holdEval(t, p, 1, 1, 6*third)
	holdEval(t, p, 2, 1, 3*(2*third+1)+3*third)
}

// Promise 9.2: what the steps make, at the positions and beside them.
func TestEvalDrawn(t *testing.T) {
	drawn(3, 4000, func(p api.Pane, x, y api.Fx) { holdEval(t, p, x, y, value(p, x, y)) })
}

// Promise 9.2: 0 for other panes, whatever fault they have, and wherever it is.
func TestEvalNotValid(t *testing.T) {
	p := grid(5, 4)
	holdEval(t, p, one, one, -14*one)
	p.Rows[3][4] = most + 1
	holdEval(t, p, one, one, 0)
	p = grid(5, 4)
	p.Xs[4] = p.Xs[3]
	holdEval(t, p, one, one, 0)
	p = grid(5, 4)
	p.Rows[3] = p.Rows[3][:4]
	holdEval(t, p, one, one, 0)
	holdEval(t, grid(33, 4), one, one, 0)
	holdEval(t, grid(4, 33), one, one, 0)
	holdEval(t, grid(1, 1), 0, 0, 0)
}

// Promise 9.2: the least and the greatest value, at whatever places, and 0 and 0 for other panes.
func TestBounds(t *testing.T) {
	holdBounds(t, chapter(), 0, 8*one)
	holdBounds(t, grid(5, 4), -20*one, -one)
	for _, size := range sizes() {
		p := grid(size[0], size[1])
		for i := range p.Rows {
			for k := range p.Xs {
				p.Rows[i][k] = 7
			}
		}
		holdBounds(t, p, 7, 7)
		places(&p, func(list string, n *api.Fx) {
			if list != "value" {
				return
			}
			*n = -most
			holdBounds(t, p, -most, 7)
			*n = most
			holdBounds(t, p, 7, most)
			*n = 6
			holdBounds(t, p, 6, 7)
			*n = 7
		})
	}
	d := draw(4)
	for range 20000 {
		p := d.valid()
		values := []api.Fx{}
		for _, row := range p.Rows {
			values = append(values, row...)
		}
		slices.Sort(values)
		holdBounds(t, p, values[0], values[len(values)-1])
	}
}

// Promise 9.3: for valid panes everything fits (which holdEval holds too), and the value is between the least and the greatest one.
func TestBetween(t *testing.T) {
	p := api.Pane{Xs: []api.Fx{-most, most}, Ys: []api.Fx{-most, most}, Rows: [][]api.Fx{{-most, most}, {most, -most}}}
	holdEval(t, p, 0, 0, 0)
	holdEval(t, p, most-1, most, -most) // the quotient is rounded to 1, and the value reaches the least one, and no further
	holdEval(t, p, most-1, -most, most)
	drawn(5, 4000, func(p api.Pane, x, y api.Fx) {
		m := &fx.M{}
		low, high := pane.Bounds(p)
		if n := pane.Eval(m, p, x, y); m.Over || n < low || n > high {
			t.Fatalf("Eval(%v, %d, %d) = %d and Over %v, not between %d and %d", p, x, y, n, m.Over, low, high)
		}
	})
}

// Rule R1: every call returns, whatever the pane is.
func TestTotal(t *testing.T) {
	ends := []api.Fx{least, greatest}
	panes := []api.Pane{
		{}, {Xs: ends}, {Ys: ends}, {Rows: [][]api.Fx{ends, ends}}, {Xs: ends, Ys: ends}, {Xs: ends, Rows: [][]api.Fx{nil}},
		{Ys: ends, Rows: [][]api.Fx{nil, nil}}, {Xs: ends, Ys: ends, Rows: [][]api.Fx{ends, ends}}, {Xs: ends, Ys: ends, Rows: [][]api.Fx{nil, ends}},
	}
	for _, p := range panes {
		pane.Right(p)
		pane.Bounds(p)
		for _, n := range []api.Fx{least, -1, 0, 1, greatest} {
			pane.Eval(&fx.M{}, p, n, n)
			pane.Eval(nil, p, n, -one)
			pane.Row(p, int(n))
		}
	}
}

// roomy is the chapter's pane in lists that have more memory behind their ends.
func roomy() api.Pane {
	p := chapter()
	p.Xs = append(p.Xs, whole(7, -7)...)[:3]
	p.Ys = append(p.Ys, whole(7, -7)...)[:2]
	for i, row := range p.Rows {
		p.Rows[i] = append(row, whole(9, -9)...)[:3]
	}
	p.Rows = append(p.Rows, whole(5, 5, 5))[:2]
	return p
}

// behind is a pane with what lies behind the ends of its lists.
func behind(p api.Pane) api.Pane {
	p = api.Pane{Xs: p.Xs[:5], Ys: p.Ys[:4], Rows: slices.Clone(p.Rows[:3])}
	for i := range 2 {
		p.Rows[i] = p.Rows[i][:5]
	}
	return p
}

// Rule R4: a pane is not changed, nor what lies behind its lists, and nothing is kept of it.
func TestArgumentsKept(t *testing.T) {
	p := roomy()
	for range 2 {
		holdRight(t, p, api.OK)
		holdRow(t, p, 1, api.Dot{Y: 4 * one}, api.Dot{X: one, Y: 4 * one}, api.Dot{X: 3 * one, Y: 8 * one})
		holdEval(t, p, 2*one, one, one*7/2)
		holdBounds(t, p, 0, 8*one)
	}
	if !reflect.DeepEqual(behind(p), behind(roomy())) {
		t.Fatalf("the pane is now %v", behind(p))
	}
	p.Rows[1][2] = 12 * one
	holdEval(t, p, 2*one, one, one*9/2)
	holdBounds(t, p, 0, 12*one)
}

// Rule R4: each row that is told is new memory.
func TestRowsNew(t *testing.T) {
	p := chapter()
	first, second := pane.Row(p, 1), pane.Row(p, 1)
	first[0] = api.Dot{X: 7, Y: 7}
	_ = append(first, api.Dot{X: 8, Y: 8})
	if !reflect.DeepEqual(p, chapter()) || second[0] != (api.Dot{Y: 4 * one}) {
		t.Fatalf("the pane is now %v, and the other row %v", p, second)
	}
	holdRow(t, p, 1, second...)
	p.Rows[1][0] = 5
	p.Xs[0] = -5
	if second[0] != (api.Dot{Y: 4 * one}) {
		t.Fatalf("the row is now %v", second)
	}
}

// BenchmarkEval measures the greatest pane.
func BenchmarkEval(b *testing.B) {
	p := grid(32, 32)
	m := &fx.M{}
	for b.Loop() {
		pane.Eval(m, p, 17*one+half, 9*one+half)
	}
}
