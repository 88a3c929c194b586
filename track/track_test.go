package track_test

import (
	"math"
	"math/big"
	"math/rand/v2"
	"reflect"
	"slices"
	"testing"

	"chicane/api"
	"chicane/track"
)

const (
	one      = api.One
	most     = api.MaxExtent
	far      = api.MaxExtent / 2 // the greatest coordinate of a track's points
	top      = api.MaxHeight / 2
	deep     = api.Deep
	greatest = api.Fx(math.MaxInt64)
	least    = api.Fx(math.MinInt64)
)

// parts makes a place of parts.
func parts(x, y api.Fx) api.V2 { return api.V2{X: x, Y: y} }

// whole makes a place of integers.
func whole(x, y api.Fx) api.V2 { return parts(x*one, y*one) }

// level makes a valid track of so many cells, from (0, 0) on, with its start in the first cell's middle.
func level(cols, rows int) api.Track {
	return api.Track{
		Rate: 100, Cell: 8 * one, Cols: cols, Rows: rows,
		Heights: make([]api.Fx, (cols+1)*(rows+1)), Ground: make([]int, cols*rows), Kinds: []api.Kind{{Grip: one}},
		Line:  []api.V2{whole(1, 1), whole(7, 1), whole(7, 7)},
		Gates: []api.Gate{{A: whole(3, 2), B: whole(3, 6)}},
		Start: whole(4, 4), Laps: 3,
	}
}

// railed is a track of four cells with rails all about its start, drivable inside, and a gate more.
func railed() api.Track {
	t := level(2, 2)
	t.Rails = [][]api.V2{
		{whole(0, 0), whole(16, 0), whole(16, 16), whole(0, 16), whole(0, 0)},
		{whole(9, 1), whole(9, 15)},
		{whole(12, 12), whole(11, 12), whole(12, 13)},
	}
	t.Gates = append(t.Gates, api.Gate{A: whole(6, 8), B: whole(2, 8), Split: true})
	return t
}

// beside makes a valid track but for, maybe, its start, which is somewhere about a piece of a rail.
func beside(a, b, start api.V2) api.Track {
	t := level(4, 4)
	t.Rails = [][]api.V2{{a, b}}
	t.Start = start
	return t
}

// row makes points along X, one behind the other.
func row(n int) []api.V2 {
	l := []api.V2{}
	for i := range n {
		l = append(l, whole(api.Fx(i)+20, 20))
	}
	return l
}

// changed is a list with another element at an index.
func changed[E any](l []E, index int, e E) []E {
	l = slices.Clone(l)
	l[index] = e
	return l
}

// without is a list that lacks the element at an index.
func without[E any](l []E, index int) []E {
	return slices.Delete(slices.Clone(l), index, index+1)
}

// spare is a list with an element behind its end.
func spare[E any](l []E, e E) []E {
	return append(slices.Clone(l), e)[:len(l)]
}

// copied is a track with its own memory.
func copied(t api.Track) api.Track {
	t.Heights, t.Ground, t.Kinds = slices.Clone(t.Heights), slices.Clone(t.Ground), slices.Clone(t.Kinds)
	t.Line, t.Gates, t.Rails = slices.Clone(t.Line), slices.Clone(t.Gates), slices.Clone(t.Rails)
	for i, l := range t.Rails {
		t.Rails[i] = slices.Clone(l)
	}
	return t
}

// gap is the exact way from one place to another.
type gap struct{ x, y *big.Int }

func from(a, b api.V2) gap {
	less := func(c, d api.Fx) *big.Int { return new(big.Int).Sub(big.NewInt(int64(d)), big.NewInt(int64(c))) }
	return gap{x: less(a.X, b.X), y: less(a.Y, b.Y)}
}

// cross is the signed area that two ways span.
func (g gap) cross(h gap) *big.Int {
	n := new(big.Int).Mul(g.x, h.y)
	return n.Sub(n, new(big.Int).Mul(g.y, h.x))
}

// dot is the scalar product of two ways.
func (g gap) dot(h gap) *big.Int {
	n := new(big.Int).Mul(g.x, h.x)
	return n.Add(n, new(big.Int).Mul(g.y, h.y))
}

// beyond reckons how far behind a piece a place is: the foot by its share of the piece, the quotient rounded up by what is left.
func beyond(a, b, p api.V2) api.Fx {
	along := from(a, b)
	size, square, share := along.cross(from(a, p)), along.dot(along), along.dot(from(a, p))
	if size.Sign() >= 0 || share.Sign() < 0 || share.Cmp(square) > 0 {
		return 0
	}
	deep, rest := new(big.Int).QuoRem(size.Neg(size), square.Sqrt(square), new(big.Int))
	if rest.Sign() > 0 {
		deep.Add(deep, big.NewInt(1))
	}
	return api.Fx(deep.Int64())
}

// apart tells whether numbers differ by more than a bound.
func apart(a, b, bound api.Fx) bool {
	n := new(big.Int).Sub(big.NewInt(int64(a)), big.NewInt(int64(b)))
	return n.CmpAbs(big.NewInt(int64(bound))) > 0
}

// few tells whether a number is not from low to high.
func few(n, low, high int) bool { return n < low || n > high }

// distant tells whether a point's coordinates are too great for a track.
func distant(l ...api.V2) bool {
	for _, p := range l {
		if apart(p.X, 0, far) || apart(p.Y, 0, far) {
			return true
		}
	}
	return false
}

// groundFault reckons what is wrong with a track's ground.
func groundFault(t api.Track) api.Errno {
	if few(t.Cols, 1, 64) || few(t.Rows, 1, 64) || few(len(t.Kinds), 1, 8) {
		return api.ErrShape
	}
	row := t.Cols + 1
	if len(t.Heights) != row*t.Rows+row || len(t.Ground) != t.Rows*t.Cols {
		return api.ErrShape
	}
	wrong := t.Cell < 4*one || t.Cell > 64*one || distant(t.Corner)
	for i, h := range t.Heights {
		wrong = wrong || apart(h, 0, top)
		wrong = wrong || i%row > 0 && apart(h, t.Heights[i-1], t.Cell)
		wrong = wrong || i >= row && apart(h, t.Heights[i-row], t.Cell)
	}
	for _, k := range t.Ground {
		wrong = wrong || few(k, 0, len(t.Kinds)-1)
	}
	for _, k := range t.Kinds {
		wrong = wrong || k.Grip < 0 || k.Grip > 2*one || k.Drag < 0 || k.Drag > one
	}
	if wrong {
		return api.ErrRange
	}
	return api.OK
}

// lineFault reckons what is wrong with a track's line.
func lineFault(t api.Track) api.Errno {
	switch {
	case few(len(t.Line), 3, 64):
		return api.ErrShape
	case distant(t.Line...):
		return api.ErrRange
	}
	return api.OK
}

// railFault reckons what is wrong with a rail.
func railFault(l []api.V2) api.Errno {
	switch {
	case few(len(l), 2, 64):
		return api.ErrShape
	case distant(l...):
		return api.ErrRange
	case len(slices.Compact(slices.Clone(l))) < len(l):
		return api.ErrSide
	}
	return api.OK
}

// startFault reckons what is wrong with a start, on ground and among rails that are right.
func startFault(t api.Track) api.Errno {
	off := func(at, begins api.Fx, cells int) bool {
		way := new(big.Int).Sub(big.NewInt(int64(at)), big.NewInt(int64(begins)))
		return way.Sign() < 0 || way.Cmp(new(big.Int).Mul(big.NewInt(int64(t.Cell)), big.NewInt(int64(cells)))) > 0
	}
	if off(t.Start.X, t.Corner.X, t.Cols) || off(t.Start.Y, t.Corner.Y, t.Rows) {
		return api.ErrRange
	}
	for _, l := range t.Rails {
		for k := range len(l) - 1 {
			if d := beyond(l[k], l[k+1], t.Start); d > 0 && d < 4*one {
				return api.ErrSide
			}
		}
	}
	return api.OK
}

// found is an error and its position.
type found struct {
	err api.Errno
	at  int
}

// shapes reckons the first error up to a track's gates.
func shapes(t api.Track) found {
	if few(t.Rate, 60, 1024) {
		return found{err: api.ErrRange}
	}
	for _, err := range []api.Errno{groundFault(t), lineFault(t)} {
		if err != api.OK {
			return found{err: err}
		}
	}
	if len(t.Rails) > 16 {
		return found{err: api.ErrShape}
	}
	for i, l := range t.Rails {
		if err := railFault(l); err != api.OK {
			return found{err, i}
		}
	}
	if few(len(t.Gates), 1, 16) {
		return found{err: api.ErrShape}
	}
	for i, g := range t.Gates {
		if distant(g.A, g.B) {
			return found{api.ErrRange, i}
		}
		if g.A == g.B {
			return found{api.ErrSide, i}
		}
	}
	return found{}
}

// fault reckons what is wrong with a track, and where.
func fault(t api.Track) found {
	if f := shapes(t); f.err != api.OK {
		return f
	}
	if err := startFault(t); err != api.OK {
		return found{err: err}
	}
	if few(t.Laps, 1, 100) {
		return found{err: api.ErrRange}
	}
	return found{}
}

// told is a track with the beginnings of its lists, for what is told of it.
func told(t api.Track) api.Track {
	t.Heights, t.Ground = t.Heights[:min(len(t.Heights), 16)], t.Ground[:min(len(t.Ground), 16)]
	return t
}

func holdRight(t *testing.T, tr api.Track, want api.Errno, at int) {
	t.Helper()
	if got, where := track.Right(tr); got != want || where != at {
		t.Fatalf("Right(%v) = %d, %d, not %d, %d", told(tr), got, where, want, at)
	}
}

func holdBars(t *testing.T, tr api.Track, want ...api.Bar) {
	t.Helper()
	if got := track.Bars(tr); !slices.Equal(got, want) {
		t.Fatalf("Bars(%v) = %v, not %v", tr.Rails, got, want)
	}
}

// holdInts holds an integer of a track at both of its bounds, within them and beyond them.
func holdInts(t *testing.T, low, high int, set func(n int) api.Track) {
	t.Helper()
	for n := low; n <= high; n++ {
		holdRight(t, set(n), api.OK, 0)
	}
	for _, n := range []int{low - 1, low - 2, high + 1, high + 2, -low, -high, 2 * high, math.MaxInt, math.MinInt, math.MaxInt32, math.MinInt32, high + 1<<32, low - 1<<32, low + 1<<62} {
		holdRight(t, set(n), api.ErrRange, 0)
	}
}

// beyonds are coordinates that are too great for a track's points, the nearest ones first.
func beyonds() []api.Fx {
	return []api.Fx{far + 1, -far - 1, far + one, -far - one, most, -most, most + 1, -most - 1, 1 << 62, -1 << 62, greatest, least, least + 1}
}

// holdPoint holds a point's coordinates at both of their bounds and beyond them, each by itself. Within them nothing is wrong but, maybe, that the start is behind a rail that goes so far.
func holdPoint(t *testing.T, at int, set func(p api.V2) api.Track) {
	t.Helper()
	for _, n := range []api.Fx{far, -far, far - 1, 1 - far, 31 * one} {
		for _, p := range []api.V2{parts(n, 5), parts(5, n), parts(n, n), parts(n, -n)} {
			tr := set(p)
			want := startFault(tr)
			if want == api.ErrRange {
				t.Fatalf("the start of %v is off its ground", told(tr))
			}
			holdRight(t, tr, want, 0)
		}
	}
	for _, n := range beyonds() {
		for _, other := range []api.Fx{0, far, -far, n} {
			holdRight(t, set(parts(n, other)), api.ErrRange, at)
			holdRight(t, set(parts(other, n)), api.ErrRange, at)
		}
	}
}

// Promise 14.1: the chapter's examples, and the empty track.
func TestRight(t *testing.T) {
	holdRight(t, level(1, 1), api.OK, 0)
	holdRight(t, railed(), api.OK, 0)
	holdRight(t, api.Track{}, api.ErrRange, 0)
	equal := level(1, 1)
	equal.Rails = [][]api.V2{row(2), {whole(1, 1), whole(1, 1)}}
	holdRight(t, equal, api.ErrSide, 1)
	slow := level(1, 1)
	slow.Rate, slow.Gates = 30, nil
	holdRight(t, slow, api.ErrRange, 0)
	slow.Rate = 60
	holdRight(t, slow, api.ErrShape, 0)
}

// Promise 14.1: the ticks of a second.
func TestRightRate(t *testing.T) {
	holdInts(t, 60, 1024, func(n int) api.Track {
		tr := railed()
		tr.Rate = n
		return tr
	})
	tr := level(1, 1)
	tr.Rate = 0
	holdRight(t, tr, api.ErrRange, 0)
}

// Promise 14.1: the laps.
func TestRightLaps(t *testing.T) {
	holdInts(t, 1, 100, func(n int) api.Track {
		tr := railed()
		tr.Laps = n
		return tr
	})
}

// Promise 14.1: what cannot be wrong: the heading, gates that end sectors, kinds beside the track.
func TestRightAnything(t *testing.T) {
	for _, head := range []api.Turn{0, 1, 1 << 31, math.MaxUint32} {
		for _, yes := range []bool{false, true} {
			tr := railed()
			tr.Head, tr.Gates[0].Split, tr.Kinds[0].Off = head, yes, yes
			holdRight(t, tr, api.OK, 0)
		}
	}
}

// Promise 14.1: the shape of the ground: each count at both of its bounds and beyond them.
func TestRightGroundShape(t *testing.T) {
	for n := range 68 {
		want := api.ErrShape
		if n >= 1 && n <= 64 {
			want = api.OK
		}
		holdRight(t, level(n, 1), want, 0)
		holdRight(t, level(1, n), want, 0)
		tr := level(2, 3)
		tr.Kinds = make([]api.Kind, n)
		if n > 8 {
			want = api.ErrShape
		}
		holdRight(t, tr, want, 0)
	}
	for _, n := range []int{-1, math.MinInt, math.MaxInt, 1 << 32, 1 << 62} {
		tr := level(1, 1)
		tr.Cols = n
		holdRight(t, tr, api.ErrShape, 0)
		tr = level(1, 1)
		tr.Rows = n
		holdRight(t, tr, api.ErrShape, 0)
	}
	for _, n := range []int{0, 1, 11, 13, 20} {
		tr := level(3, 2)
		tr.Heights = make([]api.Fx, n)
		holdRight(t, tr, api.ErrShape, 0)
	}
	for _, n := range []int{0, 1, 5, 7, 12} {
		tr := level(3, 2)
		tr.Ground = make([]int, n)
		holdRight(t, tr, api.ErrShape, 0)
	}
	tr := level(1, 1)
	tr.Heights, tr.Ground, tr.Kinds = nil, nil, nil
	holdRight(t, tr, api.ErrShape, 0)
}

// holdNumber holds a number of the ground at both of its bounds and one part beyond either.
func holdNumber(t *testing.T, low, high api.Fx, set func(tr *api.Track, n api.Fx)) {
	t.Helper()
	hold := func(n api.Fx, want api.Errno) {
		t.Helper()
		tr := level(2, 3)
		tr.Kinds = make([]api.Kind, 2)
		tr.Start = parts(tr.Corner.X, tr.Corner.Y)
		set(&tr, n)
		holdRight(t, tr, want, 0)
	}
	for _, n := range []api.Fx{low, low + 1, (low + high) / 2, high - 1, high} {
		hold(n, api.OK)
	}
	for _, n := range []api.Fx{low - 1, high + 1, low - one, high + one, least, greatest} {
		hold(n, api.ErrRange)
	}
}

// Promise 14.1: the numbers of the ground, of which field.New tells what is wrong.
func TestRightGroundRange(t *testing.T) {
	holdNumber(t, 4*one, 64*one, func(tr *api.Track, n api.Fx) { tr.Cell = n })
	holdNumber(t, -far, far, func(tr *api.Track, n api.Fx) { tr.Corner.X, tr.Start.X = n, n })
	holdNumber(t, -far, far, func(tr *api.Track, n api.Fx) { tr.Corner.Y, tr.Start.Y = n, n })
	holdNumber(t, 0, 2*one, func(tr *api.Track, n api.Fx) { tr.Kinds[1].Grip = n })
	holdNumber(t, 0, one, func(tr *api.Track, n api.Fx) { tr.Kinds[1].Drag = n })
	holdNumber(t, -8*one, 8*one, func(tr *api.Track, n api.Fx) { tr.Heights[11] = n })
	for _, sign := range []api.Fx{1, -1} {
		for _, more := range []api.Fx{0, 1, one, 1 << 50} {
			tr := level(1, 1)
			for i := range tr.Heights {
				tr.Heights[i] = sign * (top + more)
			}
			want := api.OK
			if more > 0 {
				want = api.ErrRange
			}
			holdRight(t, tr, want, 0)
		}
	}
	for n := -2; n < 5; n++ {
		tr := level(2, 3)
		tr.Kinds = make([]api.Kind, 3)
		tr.Ground[4] = n
		want := api.OK
		if n < 0 || n > 2 {
			want = api.ErrRange
		}
		holdRight(t, tr, want, 0)
	}
}

// Promise 14.1: the number of the line's points, which is asked ahead of their coordinates.
func TestRightLineCount(t *testing.T) {
	for n := range 200 {
		want := api.ErrShape
		if n >= 3 && n <= 64 {
			want = api.OK
		}
		tr := level(1, 1)
		tr.Line = row(n)
		holdRight(t, tr, want, 0)
		if n > 0 {
			tr.Line[n-1].X = far + 1
			if want == api.OK {
				want = api.ErrRange
			}
			holdRight(t, tr, want, 0)
		}
	}
	tr := level(1, 1)
	tr.Line = nil
	holdRight(t, tr, api.ErrShape, 0)
	// Points of a line may be equal.
	tr.Line = make([]api.V2, 3)
	holdRight(t, tr, api.OK, 0)
}

// Promise 14.1: the coordinates of the line.
func TestRightLineFar(t *testing.T) {
	for _, n := range []int{3, 4, 64} {
		for i := range n {
			holdPoint(t, 0, func(p api.V2) api.Track {
				tr := level(1, 1)
				tr.Line = changed(row(n), i, p)
				return tr
			})
		}
	}
}

// Promise 14.1: the number of rails, which is asked ahead of what they are.
func TestRightRailCount(t *testing.T) {
	for n := range 40 {
		want := api.OK
		if n > 16 {
			want = api.ErrShape
		}
		tr := level(1, 1)
		for range n {
			tr.Rails = append(tr.Rails, row(2))
		}
		holdRight(t, tr, want, 0)
		if n > 0 {
			tr.Rails[n-1] = []api.V2{{X: 7}, {X: 7}}
			if want == api.OK {
				holdRight(t, tr, api.ErrSide, n-1)
			} else {
				holdRight(t, tr, want, 0)
			}
		}
	}
	tr := level(1, 1)
	tr.Rails = [][]api.V2{}
	holdRight(t, tr, api.OK, 0)
	tr.Rails = make([][]api.V2, 17)
	holdRight(t, tr, api.ErrShape, 0)
}

// railAt is a valid track of so many rails, one of which is given.
func railAt(rails, index int, l []api.V2) api.Track {
	t := level(1, 1)
	for range rails {
		t.Rails = append(t.Rails, row(3))
	}
	t.Rails[index] = l
	return t
}

// eachRail calls with a number of rails and one of them.
func eachRail(call func(rails, index int)) {
	for _, rails := range []int{1, 2, 3, 16} {
		for i := range rails {
			call(rails, i)
		}
	}
}

// Promise 14.1: the number of a rail's points.
func TestRightRailPoints(t *testing.T) {
	eachRail(func(rails, i int) {
		for n := range 130 {
			tr := railAt(rails, i, row(n))
			if n >= 2 && n <= 64 {
				holdRight(t, tr, api.OK, 0)
			} else {
				holdRight(t, tr, api.ErrShape, i)
			}
		}
		holdRight(t, railAt(rails, i, nil), api.ErrShape, i)
		holdRight(t, railAt(rails, i, []api.V2{}), api.ErrShape, i)
	})
}

// Promise 14.1: the coordinates of rails.
func TestRightRailFar(t *testing.T) {
	eachRail(func(rails, i int) {
		for _, n := range []int{2, 3, 5} {
			for k := range n {
				holdPoint(t, i, func(p api.V2) api.Track { return railAt(rails, i, changed(row(n), k, p)) })
			}
		}
	})
	holdPoint(t, 1, func(p api.V2) api.Track { return railAt(2, 1, changed(row(64), 63, p)) })
}

// Promise 14.1: two equal points of a rail, one directly behind the other: at its beginning, in its midst, at its end.
func TestRightRailEqual(t *testing.T) {
	eachRail(func(rails, i int) {
		for _, n := range []int{2, 3, 4, 64} {
			for k := range n - 1 {
				l := row(n)
				l[k+1] = l[k]
				holdRight(t, railAt(rails, i, l), api.ErrSide, i)
				l[k+1].X++
				holdRight(t, railAt(rails, i, l), api.OK, 0)
				l[k+1] = l[k]
				l[k+1].Y--
				holdRight(t, railAt(rails, i, l), api.OK, 0)
			}
		}
	})
	// Others may be equal: a rail may end where it began, and come by somewhere again.
	a, b, c := whole(20, 1), whole(30, 1), whole(25, 9)
	holdRight(t, railAt(2, 1, []api.V2{a, b, c, a}), api.OK, 0)
	holdRight(t, railAt(2, 1, []api.V2{a, b, a, b, a}), api.OK, 0)
	holdRight(t, railAt(2, 1, []api.V2{a, b, c, b, a}), api.OK, 0)
	// So may two rails, and the end of one and the beginning of the next one.
	tr := level(1, 1)
	tr.Rails = [][]api.V2{{a, b}, {b, c}, {b, c}, {c, b}}
	holdRight(t, tr, api.OK, 0)
	// Points are equal only in both coordinates.
	holdRight(t, railAt(1, 0, []api.V2{whole(20, 20), whole(20, 30), whole(30, 30)}), api.OK, 0)
}

// Promise 14.1: of one rail the shape is asked first, then the range, then what is equal, whichever point it is.
func TestRightRailOrder(t *testing.T) {
	p, q := whole(20, 20), parts(far+1, 0)
	eachRail(func(rails, i int) {
		holdRight(t, railAt(rails, i, []api.V2{p, p, q}), api.ErrRange, i)
		holdRight(t, railAt(rails, i, []api.V2{q, p, p}), api.ErrRange, i)
		holdRight(t, railAt(rails, i, []api.V2{q, q}), api.ErrRange, i)
		holdRight(t, railAt(rails, i, []api.V2{q}), api.ErrShape, i)
		holdRight(t, railAt(rails, i, append(row(62), p, p)), api.ErrSide, i)
		holdRight(t, railAt(rails, i, append(row(63), p, p)), api.ErrShape, i)
		holdRight(t, railAt(rails, i, append(row(63), q, q)), api.ErrShape, i)
	})
}

// Promise 14.1: the first one of several rails is told, whatever is wrong with those behind it.
func TestRightFirstRail(t *testing.T) {
	wrong := []struct {
		l   []api.V2
		err api.Errno
	}{{row(1), api.ErrShape}, {row(65), api.ErrShape}, {[]api.V2{whole(20, 1), parts(0, -far-1)}, api.ErrRange}, {[]api.V2{whole(2, 20), whole(2, 20)}, api.ErrSide}}
	for _, a := range wrong {
		for _, b := range wrong {
			for i := range 4 {
				for k := range i {
					tr := railAt(4, i, b.l)
					tr.Rails[k] = a.l
					holdRight(t, tr, a.err, k)
				}
			}
		}
	}
}

// gateAt is a valid track of so many gates, one of which is given.
func gateAt(gates, index int, g api.Gate) api.Track {
	t := level(1, 1)
	t.Gates = nil
	for range gates {
		t.Gates = append(t.Gates, api.Gate{A: whole(3, 2), B: whole(3, 6)})
	}
	t.Gates[index] = g
	return t
}

// eachGate calls with a number of gates and one of them.
func eachGate(call func(gates, index int)) {
	for _, gates := range []int{1, 2, 3, 16} {
		for i := range gates {
			call(gates, i)
		}
	}
}

// Promise 14.1: the number of gates, which is asked ahead of what they are.
func TestRightGateCount(t *testing.T) {
	for n := range 40 {
		want := api.OK
		if n < 1 || n > 16 {
			want = api.ErrShape
		}
		tr := level(1, 1)
		tr.Gates = make([]api.Gate, n)
		for i := range tr.Gates {
			tr.Gates[i] = api.Gate{A: whole(api.Fx(i), 0), B: whole(0, 1), Split: i%2 == 0}
		}
		holdRight(t, tr, want, 0)
		if n > 0 {
			tr.Gates[n-1].A = tr.Gates[n-1].B
			if want == api.OK {
				holdRight(t, tr, api.ErrSide, n-1)
			} else {
				holdRight(t, tr, want, 0)
			}
		}
	}
	tr := level(1, 1)
	tr.Gates = nil
	holdRight(t, tr, api.ErrShape, 0)
	tr.Gates = []api.Gate{}
	holdRight(t, tr, api.ErrShape, 0)
}

// Promise 14.1: the coordinates of gates.
func TestRightGateFar(t *testing.T) {
	eachGate(func(gates, i int) {
		for _, split := range []bool{false, true} {
			holdPoint(t, i, func(p api.V2) api.Track { return gateAt(gates, i, api.Gate{A: p, B: whole(3, 6), Split: split}) })
			holdPoint(t, i, func(p api.V2) api.Track { return gateAt(gates, i, api.Gate{A: whole(3, 6), B: p, Split: split}) })
		}
	})
}

// Promise 14.1: gates of no length, of which those too far off are out of range first, and gates that are one part long.
func TestRightGateEqual(t *testing.T) {
	eachGate(func(gates, i int) {
		for _, p := range []api.V2{{}, whole(3, 6), parts(far, -far), parts(-1, 1)} {
			for _, split := range []bool{false, true} {
				holdRight(t, gateAt(gates, i, api.Gate{A: p, B: p, Split: split}), api.ErrSide, i)
				q := p
				q.X--
				holdRight(t, gateAt(gates, i, api.Gate{A: p, B: q, Split: split}), api.OK, 0)
				q = p
				q.Y++
				holdRight(t, gateAt(gates, i, api.Gate{A: q, B: p, Split: split}), api.OK, 0)
			}
		}
		for _, n := range beyonds() {
			holdRight(t, gateAt(gates, i, api.Gate{A: parts(n, 0), B: parts(n, 0)}), api.ErrRange, i)
		}
	})
	// Gates may be equal to one another.
	tr := level(1, 1)
	tr.Gates = append(tr.Gates, tr.Gates[0], api.Gate{A: tr.Gates[0].B, B: tr.Gates[0].A})
	holdRight(t, tr, api.OK, 0)
}

// Promise 14.1: the first one of several gates is told.
func TestRightFirstGate(t *testing.T) {
	wrong := []struct {
		g   api.Gate
		err api.Errno
	}{{api.Gate{A: parts(far+1, 0)}, api.ErrRange}, {api.Gate{B: parts(0, least)}, api.ErrRange}, {api.Gate{}, api.ErrSide}}
	for _, a := range wrong {
		for _, b := range wrong {
			for i := range 4 {
				for k := range i {
					tr := gateAt(4, i, b.g)
					tr.Gates[k] = a.g
					holdRight(t, tr, a.err, k)
				}
			}
		}
	}
}

// Promise 14.1: the start on the rectangle's border, in its corners, and a part beyond it, wherever the rectangle is.
func TestRightStartRange(t *testing.T) {
	corners := []api.V2{{}, whole(-4, 3), parts(far, far), parts(-far, far), parts(far, -far), parts(-far, -far), parts(7, -9)}
	for _, size := range [][2]int{{1, 1}, {3, 2}, {1, 64}, {64, 64}} {
		for _, corner := range corners {
			for _, side := range []api.Fx{4 * one, 8*one + 1, 64 * one} {
				tr := level(size[0], size[1])
				tr.Corner, tr.Cell = corner, side
				holdBorder(t, tr, corner.X+side*api.Fx(size[0]), corner.Y+side*api.Fx(size[1]))
			}
		}
	}
}

// holdBorder holds starts on the border of a track's rectangle, which ends at a place, and beyond it.
func holdBorder(t *testing.T, tr api.Track, right, upper api.Fx) {
	t.Helper()
	hold := func(x, y api.Fx, want api.Errno) {
		t.Helper()
		tr.Start = parts(x, y)
		holdRight(t, tr, want, 0)
	}
	left, lower := tr.Corner.X, tr.Corner.Y
	for _, x := range []api.Fx{left, left + 1, left + one, right - 1, right} {
		for _, y := range []api.Fx{lower, lower + 1, lower + one, upper - 1, upper} {
			hold(x, y, api.OK)
		}
		for _, y := range []api.Fx{lower - 1, lower - one, upper + 1, upper + one, upper + tr.Cell, least, greatest, -most - 1, most + 1} {
			hold(x, y, api.ErrRange)
		}
	}
	for _, y := range []api.Fx{lower, lower + one, upper} {
		for _, x := range []api.Fx{left - 1, left - one, right + 1, right + one, right + tr.Cell, least, greatest, -most - 1, most + 1} {
			hold(x, y, api.ErrRange)
		}
	}
	hold(left-1, lower-1, api.ErrRange)
	hold(right+1, upper+1, api.ErrRange)
	hold(least, greatest, api.ErrRange)
}

// Promise 14.1: the start at half of MaxExtent and a part beyond it, each way: where the rectangle goes on it may be there.
func TestRightStartFar(t *testing.T) {
	across := level(2, 2)
	across.Corner = parts(far-8*one, far-8*one)
	for more := api.Fx(-2); more <= 2; more++ {
		for _, other := range []api.Fx{far - 8*one, far, far + 1, far + 8*one} {
			across.Start = parts(far+more, other)
			holdRight(t, across, api.OK, 0)
			across.Start = parts(other, far+more)
			holdRight(t, across, api.OK, 0)
		}
		for _, begins := range []api.Fx{far, -far} {
			tr := level(2, 2)
			tr.Corner = parts(begins, begins)
			want := api.OK
			if more < 0 {
				want = api.ErrRange
			}
			tr.Start = parts(begins+more, begins)
			holdRight(t, tr, want, 0)
			tr.Start = parts(begins, begins+more)
			holdRight(t, tr, want, 0)
		}
	}
}

// Promise 14.1: the start before, on, closely behind and far behind a piece, each way, and beside its ends.
func TestRightStartBehind(t *testing.T) {
	depths := []struct {
		deep api.Fx
		err  api.Errno
	}{{-one, api.OK}, {-1, api.OK}, {0, api.OK}, {1, api.ErrSide}, {2, api.ErrSide}, {one, api.ErrSide}, {deep - 1, api.ErrSide}, {deep, api.OK}, {deep + 1, api.OK}, {8 * one, api.OK}}
	for _, d := range depths {
		for _, along := range []api.Fx{0, 1, one, 4*one - 1, 4 * one} {
			holdRight(t, beside(whole(10, 16), whole(14, 16), parts(10*one+along, 16*one-d.deep)), d.err, 0)
			holdRight(t, beside(whole(14, 16), whole(10, 16), parts(10*one+along, 16*one+d.deep)), d.err, 0)
			holdRight(t, beside(whole(16, 10), whole(16, 14), parts(16*one+d.deep, 10*one+along)), d.err, 0)
			holdRight(t, beside(whole(16, 14), whole(16, 10), parts(16*one-d.deep, 10*one+along)), d.err, 0)
		}
		for _, along := range []api.Fx{-one, -1, 4*one + 1, 5 * one} {
			holdRight(t, beside(whole(10, 16), whole(14, 16), parts(10*one+along, 16*one-d.deep)), api.OK, 0)
			holdRight(t, beside(whole(16, 14), whole(16, 10), parts(16*one-d.deep, 10*one+along)), api.OK, 0)
		}
	}
}

// Promise 14.1: the start behind a slanting piece, how far being rounded up: from the line through (4, 4) and (16, 20), which is 20 long, so that 5 along X are 4 off it.
func TestRightStartSlant(t *testing.T) {
	a, b := whole(4, 4), whole(16, 20)
	for more := api.Fx(-6); more <= 6; more++ {
		want := api.OK
		if more < 0 {
			want = api.ErrSide
		}
		// 5 and 1 part along X are 4 and 4/5 of a part off, which is rounded up; 5 less 1 part are 4 less 4/5, which is 4 again.
		if more == -1 {
			want = api.OK
		}
		holdRight(t, beside(a, b, parts(15*one+more, 12*one)), want, 0)
		holdRight(t, beside(b, a, parts(5*one-more, 12*one)), want, 0)
	}
	for more := api.Fx(-3); more <= 3; more++ {
		want := api.OK
		if more > 0 {
			want = api.ErrSide // a fraction of a part is rounded up too
		}
		holdRight(t, beside(a, b, parts(10*one+more, 12*one)), want, 0)
		holdRight(t, beside(b, a, parts(10*one-more, 12*one)), want, 0)
	}
}

// Promise 14.1: the start behind any piece of any rail, though it is before others or far behind them.
func TestRightStartAnyPiece(t *testing.T) {
	back := []api.V2{whole(6, 5), whole(2, 5), whole(2, 3), whole(6, 3)} // the start is on its left
	for n := 1; n <= 16; n++ {
		for i := range n {
			tr := level(1, 1)
			for range n {
				tr.Rails = append(tr.Rails, back)
			}
			holdRight(t, tr, api.OK, 0)
			for k := range 3 {
				tr.Rails[i] = []api.V2{back[k+1], back[k]}
				holdRight(t, tr, api.ErrSide, 0)
			}
			tr.Rails[i] = []api.V2{whole(0, 8), whole(8, 8)} // 4 above the start
			holdRight(t, tr, api.OK, 0)
			tr.Rails[i] = []api.V2{whole(0, 8), whole(8, 8), whole(8, 7), whole(0, 7), whole(0, 6), whole(5, 6)}
			holdRight(t, tr, api.ErrSide, 0)
		}
	}
	// An end of one rail and the beginning of the next one are no piece.
	tr := level(1, 1)
	tr.Rails = [][]api.V2{{whole(0, 20), whole(0, 5)}, {whole(8, 5), whole(8, 20)}}
	holdRight(t, tr, api.OK, 0)
	tr.Rails = [][]api.V2{{whole(0, 20), whole(0, 5), whole(8, 5), whole(8, 20)}}
	holdRight(t, tr, api.ErrSide, 0)
	// Nor are the end of a rail and its own beginning.
	tr.Rails = [][]api.V2{{whole(8, 5), whole(8, 20), whole(0, 20), whole(0, 5)}}
	holdRight(t, tr, api.OK, 0)
}

// wrongs are all kinds of errors, in their order, with what is told of a track that has one of them alone; each is at a place of its own.
func wrongs() []struct {
	do  func(t *api.Track)
	err api.Errno
	at  int
} {
	return []struct {
		do  func(t *api.Track)
		err api.Errno
		at  int
	}{
		{func(t *api.Track) { t.Rate = 59 }, api.ErrRange, 0},
		{func(t *api.Track) { t.Kinds = nil }, api.ErrShape, 0},
		{func(t *api.Track) { t.Corner.X = far + 1 }, api.ErrRange, 0},
		{func(t *api.Track) { t.Line = t.Line[1:] }, api.ErrShape, 0},
		{func(t *api.Track) { t.Line[len(t.Line)-1].Y = most + 1 }, api.ErrRange, 0},
		{func(t *api.Track) { t.Line[0].X = far + 1 }, api.ErrRange, 0},
		{func(t *api.Track) { t.Rails = append(t.Rails, make([][]api.V2, 14)...) }, api.ErrShape, 0},
		{func(t *api.Track) { t.Rails[0] = append(t.Rails[0], row(60)...) }, api.ErrShape, 0},
		{func(t *api.Track) { t.Rails[0][1].Y = -far - 1 }, api.ErrRange, 0},
		{func(t *api.Track) { t.Rails[0][3] = t.Rails[0][2] }, api.ErrSide, 0},
		{func(t *api.Track) { t.Rails[1] = t.Rails[1][1:] }, api.ErrShape, 1},
		{func(t *api.Track) { t.Rails[2][2].X = greatest }, api.ErrRange, 2},
		{func(t *api.Track) { t.Rails[2][1] = t.Rails[2][0] }, api.ErrSide, 2},
		{func(t *api.Track) { t.Gates = append(t.Gates, make([]api.Gate, 15)...) }, api.ErrShape, 0},
		{func(t *api.Track) { t.Gates[0].A.Y = far + 1 }, api.ErrRange, 0},
		{func(t *api.Track) { t.Gates[0].B = t.Gates[0].A }, api.ErrSide, 0},
		{func(t *api.Track) { t.Gates[1].B.X = -far - 1 }, api.ErrRange, 1},
		{func(t *api.Track) { t.Gates[1].A = t.Gates[1].B }, api.ErrSide, 1},
		{func(t *api.Track) { t.Start.Y = -1 }, api.ErrRange, 0},
		{func(t *api.Track) { t.Start.X = 10 * one }, api.ErrSide, 0},
		{func(t *api.Track) { t.Laps = 101 }, api.ErrRange, 0},
	}
}

// Promise 14.1: of two or three errors the first one is told, with its position, in whatever order they were made.
func TestRightFirst(t *testing.T) {
	all := wrongs()
	for i, a := range all {
		tr := copied(railed())
		a.do(&tr)
		holdRight(t, tr, a.err, a.at)
		for k := range i {
			tr := copied(railed())
			a.do(&tr)
			if b := all[k]; !panics(func() { b.do(&tr) }) {
				want := fault(tr)
				if want.err == api.OK {
					t.Fatalf("errors %d and %d tell nothing", i, k)
				}
				holdRight(t, tr, want.err, want.at)
			}
			for j := range k {
				tr := copied(railed())
				if !panics(func() { all[j].do(&tr); all[k].do(&tr); a.do(&tr) }) {
					want := fault(tr)
					holdRight(t, tr, want.err, want.at)
				}
			}
		}
	}
}

// panics tells whether a change of a track finds nothing to be changed any more.
func panics(do func()) (yes bool) {
	defer func() { yes = recover() != nil }()
	do()
	return false
}

// Promise 14.1: of errors of different parts the first part's one is told, by pen and paper.
func TestRightFirstPart(t *testing.T) {
	all := wrongs()
	parts := [][]int{{0}, {1, 2}, {3, 4, 5}, {6}, {7, 8, 9}, {10}, {11, 12}, {14, 15}, {16, 17}, {18, 19}, {20}}
	for i, later := range parts {
		for _, earlier := range parts[:i] {
			for _, a := range earlier {
				for _, b := range later {
					tr := copied(railed())
					all[b].do(&tr)
					all[a].do(&tr)
					holdRight(t, tr, all[a].err, all[a].at)
				}
			}
		}
	}
	// All at once, but for those that are in the way of others.
	tr := copied(railed())
	for _, i := range []int{20, 18, 17, 14, 12, 10, 9, 5, 2} {
		all[i].do(&tr)
		holdRight(t, tr, all[i].err, all[i].at)
	}
	all[0].do(&tr)
	holdRight(t, tr, api.ErrRange, 0)
}

// Promise 14.2: the pieces of no rail, of one and of several.
func TestBars(t *testing.T) {
	a, b, c, d := whole(1, 2), whole(3, 4), whole(5, 6), whole(7, 8)
	bars := func(rails ...[]api.V2) api.Track {
		tr := level(1, 1)
		tr.Rails = rails
		return tr
	}
	holdBars(t, bars())
	holdBars(t, api.Track{})
	holdBars(t, api.Track{Rails: [][]api.V2{}})
	holdBars(t, bars([]api.V2{a, b}), api.Bar{A: a, B: b})
	holdBars(t, bars([]api.V2{a, b, c}), api.Bar{A: a, B: b}, api.Bar{A: b, B: c})
	holdBars(t, bars([]api.V2{c, b}, []api.V2{d, a, b}, []api.V2{a, d}),
		api.Bar{A: c, B: b}, api.Bar{A: d, B: a, Rail: 1}, api.Bar{A: a, B: b, Rail: 1}, api.Bar{A: a, B: d, Rail: 2})
	holdBars(t, bars([]api.V2{a, b, c, a}), api.Bar{A: a, B: b}, api.Bar{A: b, B: c}, api.Bar{A: c, B: a})
	// The track may be wrong: rails without a piece, pieces without a length, points too far off.
	holdBars(t, bars(nil, []api.V2{}, []api.V2{a}, []api.V2{a, a}, nil, []api.V2{b, a}), api.Bar{A: a, B: a, Rail: 3}, api.Bar{A: b, B: a, Rail: 5})
	wild := parts(least, greatest)
	holdBars(t, bars([]api.V2{wild, a, wild}), api.Bar{A: wild, B: a}, api.Bar{A: a, B: wild})
	holdBars(t, api.Track{Cols: -1, Laps: math.MinInt, Rails: [][]api.V2{{a, b}}}, api.Bar{A: a, B: b})
}

// Promise 14.2: as many pieces as there are ways from one point to the next one, up to the greatest rails and beyond them.
func TestBarsCounts(t *testing.T) {
	for _, rails := range []int{1, 2, 15, 16, 17, 40} {
		for _, points := range []int{0, 1, 2, 3, 63, 64, 65, 300} {
			tr := level(1, 1)
			want := []api.Bar{}
			for i := range rails {
				l := []api.V2{}
				for k := range points {
					l = append(l, whole(api.Fx(i), api.Fx(k)))
					if k > 0 {
						want = append(want, api.Bar{A: l[k-1], B: l[k], Rail: i})
					}
				}
				tr.Rails = append(tr.Rails, l)
			}
			holdBars(t, tr, want...)
		}
	}
}

// Rules R4 and R5: pieces are new memory, and neither a track nor what lies behind its lists is changed.
func TestOwnMemory(t *testing.T) {
	tr := copied(railed())
	tr.Heights, tr.Ground, tr.Kinds = spare(tr.Heights, 7), spare(tr.Ground, 7), spare(tr.Kinds, api.Kind{Grip: 7})
	tr.Line, tr.Gates = spare(tr.Line, whole(7, 7)), spare(tr.Gates, api.Gate{A: whole(7, 7)})
	tr.Rails = spare(tr.Rails, row(7))
	for i, l := range tr.Rails {
		tr.Rails[i] = spare(l, whole(7, 7))
	}
	holdRight(t, tr, api.OK, 0)
	bars := track.Bars(tr)
	first := slices.Clone(bars)
	for i := range bars {
		bars[i] = api.Bar{A: parts(least, least), Rail: 99}
	}
	_ = append(bars, api.Bar{Rail: 98})
	holdBars(t, tr, first...)
	holdRight(t, tr, api.OK, 0)
	if !reflect.DeepEqual(tr, copied(railed())) {
		t.Fatalf("the track is now %v", tr)
	}
	behind := []bool{
		tr.Heights[:10][9] == 7, tr.Ground[:5][4] == 7, tr.Kinds[:2][1].Grip == 7, tr.Line[:4][3] == whole(7, 7),
		tr.Gates[:3][2].A == whole(7, 7), slices.Equal(tr.Rails[:4][3], row(7)), tr.Rails[1][:3][2] == whole(7, 7),
	}
	if slices.Contains(behind, false) {
		t.Fatalf("what lies behind the lists is changed: %v", behind)
	}
	// What was told stays, whatever becomes of the track.
	told := track.Bars(tr)
	for _, l := range tr.Rails {
		clear(l)
	}
	if !slices.Equal(told, first) {
		t.Fatalf("the pieces are now %v", told)
	}
}

// Rule R3: empty lists may be nil or not.
func TestEmptyLists(t *testing.T) {
	clears := []func(t *api.Track, none bool){
		func(t *api.Track, none bool) { t.Heights = emptied(t.Heights, none) },
		func(t *api.Track, none bool) { t.Ground = emptied(t.Ground, none) },
		func(t *api.Track, none bool) { t.Kinds = emptied(t.Kinds, none) },
		func(t *api.Track, none bool) { t.Line = emptied(t.Line, none) },
		func(t *api.Track, none bool) { t.Rails = emptied(t.Rails, none) },
		func(t *api.Track, none bool) { t.Rails[1] = emptied(t.Rails[1], none) },
		func(t *api.Track, none bool) { t.Gates = emptied(t.Gates, none) },
	}
	want := []found{{err: api.ErrShape}, {err: api.ErrShape}, {err: api.ErrShape}, {err: api.ErrShape}, {}, {api.ErrShape, 1}, {err: api.ErrShape}}
	for i, empty := range clears {
		for _, none := range []bool{false, true} {
			tr := copied(railed())
			empty(&tr, none)
			holdRight(t, tr, want[i].err, want[i].at)
		}
	}
}

// emptied is a list of no elements: none at all, or an empty one.
func emptied[E any](l []E, none bool) []E {
	if none {
		return nil
	}
	return l[:0]
}

// drawer draws by a fixed rule.
type drawer struct{ *rand.Rand }

func draw(seed uint64) drawer { return drawer{rand.New(rand.NewPCG(14, seed))} }

// number draws a number from low to high, quite often one of both.
func (d drawer) number(low, high api.Fx) api.Fx {
	switch d.IntN(8) {
	case 0:
		return low
	case 1:
		return high
	}
	return low + api.Fx(d.Int64N(int64(high-low)+1))
}

// point draws a point of a track: about its rectangle, or anywhere.
func (d drawer) point(t api.Track) api.V2 {
	if d.IntN(6) == 0 {
		return parts(d.number(-far, far), d.number(-far, far))
	}
	near := func(begins api.Fx, cells int) api.Fx {
		return max(-far, min(far, begins+d.number(-8*one, t.Cell*api.Fx(cells)+8*one)))
	}
	return parts(near(t.Corner.X, t.Cols), near(t.Corner.Y, t.Rows))
}

// points draws so many points, none of which is equal to the one ahead of it.
func (d drawer) points(t api.Track, n int) []api.V2 {
	l := []api.V2{}
	for len(l) < n {
		if p := d.point(t); len(l) == 0 || l[len(l)-1] != p {
			l = append(l, p)
		}
	}
	return l
}

// track draws a track that is valid but for, maybe, a rail that the start is behind.
func (d drawer) track() api.Track {
	t := level(1+d.IntN(4), 1+d.IntN(4))
	t.Rate, t.Laps, t.Head = 60+d.IntN(965), 1+d.IntN(100), api.Turn(d.Uint32())
	t.Cell, t.Corner = d.number(4*one, 64*one), parts(d.number(-far, far), d.number(-far, far))
	for i := range t.Heights {
		t.Heights[i] = d.number(-2*one, 2*one)
	}
	t.Line = d.points(t, 3+d.IntN(6))
	for range d.IntN(5) {
		t.Rails = append(t.Rails, d.points(t, 2+d.IntN(3)))
	}
	t.Gates = nil
	for range 1 + d.IntN(4) {
		l := d.points(t, 2)
		t.Gates = append(t.Gates, api.Gate{A: l[0], B: l[1], Split: d.IntN(2) == 0})
	}
	right, upper := t.Cell*api.Fx(t.Cols), t.Cell*api.Fx(t.Rows)
	t.Start = parts(t.Corner.X+d.number(0, right), t.Corner.Y+d.number(0, upper))
	return t
}

// moved is a coordinate that is off somewhere, quite often too far.
func (d drawer) moved(n api.Fx) api.Fx {
	return []api.Fx{n, n + 1, n - 1, far, far + 1, -far, -far - 1, n + d.number(-one, one), api.Fx(d.Uint64()), least}[d.IntN(10)]
}

// place is a place that is off somewhere, in one coordinate.
func (d drawer) place(p api.V2) api.V2 {
	if d.IntN(2) == 0 {
		return parts(d.moved(p.X), p.Y)
	}
	return parts(p.X, d.moved(p.Y))
}

// spoil changes something of a track, which may be valid still.
func (d drawer) spoil(t *api.Track) {
	switch d.IntN(12) {
	case 0:
		t.Rate = []int{59, 60, 1024, 1025}[d.IntN(4)]
	case 1:
		t.Laps = []int{0, 1, 100, 101}[d.IntN(4)]
	case 2:
		t.Corner = d.place(t.Corner)
	case 3:
		t.Heights[d.IntN(len(t.Heights))] = d.number(-5*one, 5*one)
	case 4:
		t.Line[d.IntN(len(t.Line))] = d.place(t.Line[0])
	case 5:
		t.Line = d.points(*t, []int{2, 3, 64, 65}[d.IntN(4)])
	case 6:
		t.Rails = append(t.Rails, d.points(*t, d.IntN(4)))
	case 7, 8:
		d.spoilRail(t.Rails)
	case 9:
		g := &t.Gates[d.IntN(len(t.Gates))]
		g.A = []api.V2{g.B, d.place(g.A)}[d.IntN(2)]
	case 10:
		t.Gates = slices.Repeat(t.Gates, 1+d.IntN(17))
	case 11:
		t.Start = d.place(t.Start)
	}
}

// spoilRail changes a point of one of the rails that have any.
func (d drawer) spoilRail(rails [][]api.V2) {
	for _, i := range d.Perm(len(rails)) {
		if l := rails[i]; len(l) > 1 {
			k := d.IntN(len(l))
			l[k] = []api.V2{l[max(k-1, 0)], d.place(l[k])}[d.IntN(2)]
			return
		}
	}
}

// Promise 14.1: drawn tracks, as they are, and with one thing or several things wrong.
func TestRightDrawn(t *testing.T) {
	d := draw(1)
	count := map[found]int{}
	for range 60000 {
		tr := d.track()
		for range d.IntN(3) {
			d.spoil(&tr)
		}
		want := fault(tr)
		count[want]++
		holdRight(t, tr, want.err, want.at)
	}
	for _, want := range []found{{}, {err: api.ErrRange}, {err: api.ErrShape}, {err: api.ErrSide}, {api.ErrRange, 1}, {api.ErrShape, 1}, {api.ErrSide, 1}, {api.ErrSide, 2}} {
		if count[want] < 200 {
			t.Fatalf("drawn tracks tell %v", count)
		}
	}
}

// Promise 14.1: drawn starts about a drawn piece, at every depth, most of them about Deep.
func TestRightDrawnStarts(t *testing.T) {
	d := draw(2)
	count := map[api.Errno]int{}
	for range 40000 {
		a, b := parts(d.number(8*one, 24*one), d.number(8*one, 24*one)), parts(d.number(8*one, 24*one), d.number(8*one, 24*one))
		x, y := float64(b.X-a.X), float64(b.Y-a.Y)
		long := math.Hypot(x, y)
		if long == 0 {
			continue
		}
		deep := float64([]api.Fx{0, api.Deep, d.number(-one, 6*one)}[d.IntN(3)] + api.Fx(d.IntN(9)-4))
		share := []float64{0, 1, d.Float64(), d.Float64()*2 - 0.5}[d.IntN(4)]
		tr := beside(a, b, parts(a.X+api.Fx(x*share+y/long*deep), a.Y+api.Fx(y*share-x/long*deep)))
		want := fault(tr)
		count[want.err]++
		holdRight(t, tr, want.err, want.at)
	}
	if min(count[api.OK], count[api.ErrSide]) < 5000 {
		t.Fatalf("drawn starts tell %v", count)
	}
}

// Promise 14.2: the pieces of drawn rails, and again in another order of calls.
func TestBarsDrawn(t *testing.T) {
	d := draw(3)
	for range 3000 {
		tr := d.track()
		bars := track.Bars(tr)
		k := 0
		for i, l := range tr.Rails {
			for j := range len(l) - 1 {
				if k >= len(bars) || bars[k] != (api.Bar{A: l[j], B: l[j+1], Rail: i}) {
					t.Fatalf("Bars(%v) = %v", tr.Rails, bars)
				}
				k++
			}
		}
		track.Right(tr)
		holdBars(t, tr, bars[:k]...)
	}
}

// Promise 14.3: a valid track remains valid without one of its rails, or with more laps.
func TestStaysValid(t *testing.T) {
	d := draw(4)
	held := 0
	for held < 1500 {
		tr := d.track()
		if err, _ := track.Right(tr); err != api.OK {
			continue
		}
		held++
		for i := range tr.Rails {
			less := tr
			less.Rails = without(tr.Rails, i)
			holdRight(t, less, api.OK, 0)
		}
		for laps := tr.Laps; laps <= 100; laps += 1 + d.IntN(20) {
			more := tr
			more.Laps = laps
			holdRight(t, more, api.OK, 0)
		}
		tr.Laps = 100
		holdRight(t, tr, api.OK, 0)
		tr.Laps = 101
		holdRight(t, tr, api.ErrRange, 0)
	}
	full := level(1, 1)
	for range 16 {
		full.Rails = append(full.Rails, row(64))
	}
	for len(full.Rails) > 0 {
		holdRight(t, full, api.OK, 0)
		full.Rails = without(full.Rails, len(full.Rails)/2)
	}
	holdRight(t, full, api.OK, 0)
}
