package fence_test

import (
	"math"
	"math/big"
	"math/rand/v2"
	"reflect"
	"runtime"
	"slices"
	"testing"

	"chicane/api"
	"chicane/fence"
	"chicane/track"
)

const (
	one      = api.One
	most     = api.MaxExtent
	far      = api.MaxExtent / 2 // the greatest coordinate of a valid track's rails
	reach    = 64 * one          // the greatest distance that may be asked for
	greatest = api.Fx(math.MaxInt64)
	least    = api.Fx(math.MinInt64)
)

// parts makes a place of parts.
func parts(x, y api.Fx) api.V2 { return api.V2{X: x, Y: y} }

// whole makes a place of integers.
func whole(x, y api.Fx) api.V2 { return parts(x*one, y*one) }

// moved is a place that is so many parts off another one.
func moved(p api.V2, x, y api.Fx) api.V2 { return parts(p.X+x, p.Y+y) }

// railed is a track that has nothing but rails.
func railed(rails ...[]api.V2) api.Track { return api.Track{Rails: rails} }

// pieces is a track each of whose rails is one piece, given by its two ends.
func pieces(ends ...api.V2) api.Track {
	t := api.Track{}
	for i := 0; i+1 < len(ends); i += 2 {
		t.Rails = append(t.Rails, []api.V2{ends[i], ends[i+1]})
	}
	return t
}

// example is the chapter's: a piece from (0, 0) to (100, 0), and one from (40, 10) to (20, 10).
func example() api.Track {
	return pieces(whole(0, 0), whole(100, 0), whole(40, 10), whole(20, 10))
}

// spare is a list with an element behind its end.
func spare[E any](l []E, e E) []E { return append(slices.Clone(l), e)[:len(l)] }

// copied is a track with rails in their own memory.
func copied(t api.Track) api.Track {
	t.Rails = slices.Clone(t.Rails)
	for i, l := range t.Rails {
		t.Rails[i] = slices.Clone(l)
	}
	return t
}

// outside tells by how many parts a coordinate is outside the stretch between two others; differences of any two coordinates fit a number without a sign.
func outside(c, a, b api.Fx) uint64 {
	switch low, high := min(a, b), max(a, b); {
	case c < low:
		return uint64(low) - uint64(c)
	case c > high:
		return uint64(c) - uint64(high)
	}
	return 0
}

// beyond tells whether a place's coordinates are too great for any answer.
func beyond(l ...api.V2) bool {
	for _, p := range l {
		if outside(p.X, -most, most) > 0 || outside(p.Y, -most, most) > 0 {
			return true
		}
	}
	return false
}

// asked tells whether a distance is one that may be asked for.
func asked(n api.Fx) bool { return n >= 0 && n <= reach }

// gap is the exact way from one place to another.
type gap struct{ x, y *big.Int }

func from(a, b api.V2) gap {
	less := func(c, d api.Fx) *big.Int { return new(big.Int).Sub(big.NewInt(int64(d)), big.NewInt(int64(c))) }
	return gap{x: less(a.X, b.X), y: less(a.Y, b.Y)}
}

// cross is the signed area that two ways span.
func (g gap) cross(h gap) *big.Int {
	n := new(big.Int).Mul(g.x, h.y)
	return n.Sub(n, new(big.Int).Mul(g.y, h.x))
}

// dot is the scalar product of two ways.
func (g gap) dot(h gap) *big.Int {
	n := new(big.Int).Mul(g.x, h.x)
	return n.Add(n, new(big.Int).Mul(g.y, h.y))
}

// hand is the side of a line on which a place is.
func hand(a, b, p api.V2) int { return from(a, b).cross(from(a, p)).Sign() }

// on tells whether a place that is on the line of a stretch is on the stretch.
func on(a, b, p api.V2) bool { return outside(p.X, a.X, b.X) == 0 && outside(p.Y, a.Y, b.Y) == 0 }

// meet tells whether stretches meet: they cross, or an end of one is on the other one.
func meet(a, b, p, q api.V2) bool {
	first, second, third, fourth := hand(a, b, p), hand(a, b, q), hand(p, q, a), hand(p, q, b)
	if first*second < 0 && third*fourth < 0 {
		return true
	}
	return first == 0 && on(a, b, p) || second == 0 && on(a, b, q) || third == 0 && on(p, q, a) || fourth == 0 && on(p, q, b)
}

// behind reckons how far behind a piece a place is: the foot by its share of the piece, the quotient rounded up by what is left.
func behind(a, b, p api.V2) api.Fx {
	along := from(a, b)
	size, square, share := along.cross(from(a, p)), along.dot(along), along.dot(from(a, p))
	if size.Sign() >= 0 || share.Sign() < 0 || share.Cmp(square) > 0 {
		return 0
	}
	deep, rest := new(big.Int).QuoRem(size.Neg(size), square.Sqrt(square), new(big.Int))
	if rest.Sign() > 0 {
		deep.Add(deep, big.NewInt(1))
	}
	return api.Fx(deep.Int64())
}

// listed searches all pieces for those that are near a place.
func listed(bars []api.Bar, p api.V2, n api.Fx) []int {
	var l []int
	for i, b := range bars {
		if asked(n) && !beyond(p) && outside(p.X, b.A.X, b.B.X) <= uint64(n) && outside(p.Y, b.A.Y, b.B.Y) <= uint64(n) {
			l = append(l, i)
		}
	}
	return l
}

// broken searches all pieces for those that a move passes to their wrong side.
func broken(bars []api.Bar, p, q api.V2) []int {
	var l []int
	for i, b := range bars {
		if beyond(p, q, b.A, b.B) || outside(p.X, q.X, q.X) > uint64(reach) || outside(p.Y, q.Y, q.Y) > uint64(reach) {
			continue
		}
		if hand(b.A, b.B, p) >= 0 && hand(b.A, b.B, q) < 0 && meet(b.A, b.B, p, q) {
			l = append(l, i)
		}
	}
	return l
}

// deepest searches all pieces for the one behind which a place is by the least.
func deepest(bars []api.Bar, p api.V2, deep api.Fx) (int, api.Fx) {
	index, by := -1, api.Fx(0)
	for i, b := range bars {
		if !asked(deep) || beyond(p, b.A, b.B) {
			continue
		}
		if d := behind(b.A, b.B, p); d > 0 && d <= deep && (index < 0 || d < by) {
			index, by = i, d
		}
	}
	return index, by
}

func holdBars(t *testing.T, tr api.Track, want ...api.Bar) {
	t.Helper()
	if got := fence.New(tr).Bars(); !slices.Equal(got, want) {
		t.Fatalf("Bars of %v = %v, not %v", tr.Rails, got, want)
	}
}

func holdAround(t *testing.T, f *fence.Fence, p api.V2, n api.Fx, want ...int) {
	t.Helper()
	if got := f.Around(p, n); !slices.Equal(got, want) {
		t.Fatalf("Around(%v, %d) = %v, not %v", p, n, got, want)
	}
}

func holdBreaks(t *testing.T, f *fence.Fence, p, q api.V2, want ...int) {
	t.Helper()
	if got := f.Breaks(p, q); !slices.Equal(got, want) {
		t.Fatalf("Breaks(%v, %v) = %v, not %v", p, q, got, want)
	}
}

// holdPassed holds a move that breaks pieces, and the opposite one, which breaks none.
func holdPassed(t *testing.T, f *fence.Fence, p, q api.V2, want ...int) {
	t.Helper()
	holdBreaks(t, f, p, q, want...)
	holdBreaks(t, f, q, p)
}

func holdBehind(t *testing.T, f *fence.Fence, p api.V2, deep api.Fx, index int, by api.Fx) {
	t.Helper()
	if got, n := f.Behind(p, deep); got != index || n != by {
		t.Fatalf("Behind(%v, %d) = %d, %d, not %d, %d", p, deep, got, n, index, by)
	}
}

// Promise 16.1: the pieces of all rails, rail by rail, those of rails of any number of points.
func TestBars(t *testing.T) {
	a, b, c := whole(0, 0), whole(3, 0), whole(3, 5)
	holdBars(t, api.Track{})
	holdBars(t, railed())
	holdBars(t, api.Track{Rails: [][]api.V2{}})
	holdBars(t, railed(nil, []api.V2{}, []api.V2{a}))
	holdBars(t, railed([]api.V2{a, b}), api.Bar{A: a, B: b})
	holdBars(t, railed(nil, []api.V2{a}, []api.V2{c, b}, nil, []api.V2{b, a, c}, []api.V2{c}),
		api.Bar{A: c, B: b, Rail: 2}, api.Bar{A: b, B: a, Rail: 4}, api.Bar{A: a, B: c, Rail: 4})
	// Points that are equal make pieces as others do.
	holdBars(t, railed([]api.V2{a, a, a}, []api.V2{a, b, a}),
		api.Bar{A: a, B: a}, api.Bar{A: a, B: a}, api.Bar{A: a, B: b, Rail: 1}, api.Bar{A: b, B: a, Rail: 1})
	// So do points that are too far off.
	holdBars(t, railed([]api.V2{parts(least, greatest), parts(most+1, 0)}), api.Bar{A: parts(least, greatest), B: parts(most+1, 0)})
}

// all is a track of so many rails with so many points each, all of them different.
func all(rails, points int) api.Track {
	t := api.Track{}
	for i := range rails {
		l := []api.V2{}
		for k := range points {
			l = append(l, whole(api.Fx(k)*9-200, api.Fx(i)*40+api.Fx(k%2)*7-100))
		}
		t.Rails = append(t.Rails, l)
	}
	return t
}

// Promise 16.1: as many parts as are allowed, and more: the track need not be valid.
func TestBarsMany(t *testing.T) {
	for _, size := range [][2]int{{1, 2}, {api.MaxRails, api.MaxRail}, {api.MaxRails + 1, 2}, {1, api.MaxRail + 1}, {50, 100}} {
		tr := all(size[0], size[1])
		want := []api.Bar{}
		for i := range size[0] {
			for k := range size[1] - 1 {
				want = append(want, api.Bar{A: tr.Rails[i][k], B: tr.Rails[i][k+1], Rail: i})
			}
		}
		holdBars(t, tr, want...)
		if got := track.Bars(tr); !slices.Equal(got, want) {
			t.Fatalf("track.Bars tells %d pieces, not %d", len(got), len(want))
		}
	}
}

// Promise 16.2: the chapter's example, and what is about it.
func TestAround(t *testing.T) {
	f := fence.New(example())
	holdAround(t, f, whole(30, 5), 5*one, 0, 1)
	holdAround(t, f, whole(30, 5), 5*one-1)
	holdAround(t, f, moved(whole(30, 5), 0, 1), 5*one, 1)
	holdAround(t, f, moved(whole(30, 5), 0, -1), 5*one, 0)
	holdAround(t, f, whole(30, 0), 0, 0)
	holdAround(t, f, whole(50, 10), 10*one, 0, 1)
	holdAround(t, f, moved(whole(50, 10), 1, 0), 10*one, 0)
	holdAround(t, f, whole(110, 3), 10*one, 0)
	holdAround(t, f, moved(whole(110, 3), 1, 0), 10*one)
	holdAround(t, f, whole(30, 70), 60*one, 1)
	holdAround(t, f, whole(30, 64), 64*one, 0, 1)
	// Near the box is enough: a slanting piece may be far from its box's corners.
	f = fence.New(pieces(whole(0, 0), whole(1000, 1000)))
	holdAround(t, f, whole(1000, 0), 0, 0)
	holdAround(t, f, whole(0, 1000), 0, 0)
	holdAround(t, f, whole(500, 500), 0, 0)
	holdAround(t, f, whole(1001, -1), one, 0)
	holdAround(t, f, parts(1001*one+1, -one), one)
	// Without rails, or with points alone, there is nothing.
	holdAround(t, fence.New(api.Track{}), whole(0, 0), reach)
	holdAround(t, fence.New(railed([]api.V2{{}}, nil)), whole(0, 0), reach)
}

// holdBox holds Around on a piece's box, extended by a distance: its edges and corners, and one part within and beyond them.
func holdBox(t *testing.T, f *fence.Fence, low, high api.V2, n api.Fx) {
	t.Helper()
	for _, p := range boxed(low, high, n) {
		in := p.X >= low.X-n && p.X <= high.X+n && p.Y >= low.Y-n && p.Y <= high.Y+n
		if in && !beyond(p) {
			holdAround(t, f, p, n, 0)
		} else {
			holdAround(t, f, p, n)
		}
	}
}

// boxed is the places on the edges and corners of a box that is extended by a distance, in its middle, and one part within and beyond it.
func boxed(low, high api.V2, n api.Fx) []api.V2 {
	l := []api.V2{}
	for _, x := range []api.Fx{low.X - n, low.X/2 + high.X/2, high.X + n} {
		for _, y := range []api.Fx{low.Y - n, low.Y/2 + high.Y/2, high.Y + n} {
			for dx := api.Fx(-1); dx <= 1; dx++ {
				for dy := api.Fx(-1); dy <= 1; dy++ {
					l = append(l, parts(x+dx, y+dy))
				}
			}
		}
	}
	return l
}

// spots is places about which pieces lie: those where cells of any size could end, on both sides of 0, and places between them.
func spots() []api.V2 {
	l := []api.V2{{}, whole(5, -7), whole(-1000, 333)}
	for _, n := range []api.Fx{64, 128, 4096, 32768} {
		l = append(l, whole(n, n), whole(-n, n), whole(n, -n), whole(-n, -n), whole(0, n), whole(-n, 0))
	}
	return l
}

// lengths is how long pieces are along an axis: from no length to more than several cells, each power about a part shorter and longer too.
func lengths() []api.Fx {
	l := []api.Fx{0, 1, one, 10 * one}
	for _, n := range []api.Fx{32, 64, 128, 256, 1000, 2048} {
		l = append(l, n*one-1, n*one, n*one+1)
	}
	return l
}

// Promise 16.2: each edge and corner of the box of pieces of every length, level, upright, slanting either way, begun at either end.
func TestAroundEdges(t *testing.T) {
	for _, p := range spots() {
		for _, long := range lengths() {
			for _, size := range []api.V2{parts(long, 0), parts(0, long), parts(long, long), parts(long, 3*one)} {
				low, high := p, moved(p, size.X, size.Y)
				left, right := parts(low.X, high.Y), parts(high.X, low.Y)
				for _, ends := range [][2]api.V2{{low, high}, {high, low}, {left, right}, {right, left}} {
					f := fence.New(pieces(ends[:]...))
					for _, n := range []api.Fx{0, 1, 4 * one, reach - 1, reach} {
						holdBox(t, f, low, high, n)
					}
				}
			}
		}
	}
}

// Promise 16.2: distances at both bounds, beyond them, and at the ends of their range.
func TestAroundFar(t *testing.T) {
	f := fence.New(pieces(whole(0, 0), whole(8, 0)))
	for _, n := range []api.Fx{0, 1, one, reach - 1, reach} {
		holdAround(t, f, whole(4, 0), n, 0)
		holdAround(t, f, parts(0, n), n, 0)
		holdAround(t, f, parts(0, n+1), n)
	}
	for _, n := range []api.Fx{-1, -one, reach + 1, reach + one, 2 * reach, -reach, most, greatest, least, least + 1, 1 << 62, -1 << 62} {
		holdAround(t, f, whole(4, 0), n)
		holdAround(t, f, whole(0, 0), n)
	}
}

// strays is coordinates that are too great for any answer, the nearest ones first.
func strays() []api.Fx {
	return []api.Fx{most + 1, -most - 1, most + one, -most - one, most + reach, -most - reach, 1 << 62, -1 << 62, greatest, greatest - 1, least, least + 1}
}

// Promise 16.2: places at MaxExtent, and beyond it, about pieces that go on there.
func TestAroundExtent(t *testing.T) {
	f := fence.New(pieces(parts(least, least), parts(greatest, greatest)))
	for _, n := range []api.Fx{0, 1, reach} {
		for _, c := range []api.Fx{most, most - 1, -most, 1 - most} {
			for _, p := range []api.V2{parts(c, 0), parts(0, c), parts(c, c), parts(c, -c)} {
				holdAround(t, f, p, n, 0)
			}
		}
		for _, c := range strays() {
			for _, p := range []api.V2{parts(c, 0), parts(0, c), parts(c, c), parts(c, most), parts(-most, c)} {
				holdAround(t, f, p, n)
			}
		}
	}
}

// Promise 16.2: pieces at MaxExtent, beyond it, and at both ends of the range of coordinates.
func TestAroundStrays(t *testing.T) {
	for _, c := range []api.Fx{most, most + 1, most + reach - 1, most + reach, most + reach + 1, most + 2*reach, 2 * most, 1 << 62, greatest} {
		for _, sign := range []api.Fx{1, -1} {
			edge := sign * most
			across := fence.New(pieces(parts(sign*c, -one), parts(sign*c, one)))
			along := fence.New(pieces(parts(one, sign*c), parts(-one, sign*c)))
			for _, n := range []api.Fx{0, 1, 2, one, reach - 1, reach} {
				want := []int{0}
				if c-most > n {
					want = nil
				}
				holdAround(t, across, parts(edge, 0), n, want...)
				holdAround(t, along, parts(0, edge), n, want...)
				holdAround(t, across, parts(edge, n+one+1), n)
				holdAround(t, along, parts(-n-one-1, edge), n)
				holdAround(t, across, parts(-edge, 0), n)
				holdAround(t, along, parts(0, -edge), n)
			}
		}
	}
	// What goes from one side to the other one has all between.
	for _, c := range []api.Fx{most, most + 1, 1 << 62, greatest} {
		f := fence.New(pieces(parts(-c, 7), parts(c, 7), parts(5, c), parts(5, -c-1), parts(0, least), parts(0, least)))
		for _, x := range []api.Fx{-most, -one, 0, 5, one, most} {
			for _, y := range []api.Fx{-most, -one, 7, one, most} {
				want := []int{}
				if y == 7 {
					want = append(want, 0)
				}
				if x == 5 {
					want = append(want, 1)
				}
				holdAround(t, f, parts(x, y), 0, want...)
			}
		}
	}
}

// corners is places on both sides of the edges of the smallest cells, on them and on their corners.
func corners() []api.V2 {
	l := []api.V2{}
	for _, x := range []api.Fx{-128, -64, 0, 64, 128} {
		for _, y := range []api.Fx{-128, -64, 0, 64, 128} {
			for dx := api.Fx(-1); dx <= 1; dx++ {
				for dy := api.Fx(-1); dy <= 1; dy++ {
					l = append(l, moved(whole(x, y), dx, dy))
				}
			}
		}
	}
	return l
}

// Promise 16.2: pieces from each place about the cells' corners to each other one, and places there.
func TestAroundCorners(t *testing.T) {
	tr := api.Track{}
	for _, a := range corners() {
		l := []api.V2{}
		for _, b := range corners() {
			l = append(l, a, b)
		}
		tr.Rails = append(tr.Rails, l)
	}
	f := fence.New(tr)
	bars := track.Bars(tr)
	for i, p := range corners() {
		n := []api.Fx{0, 1, one, reach - 1, reach, 2}[i%6]
		holdAround(t, f, p, n, listed(bars, p, n)...)
	}
}

// Promise 16.3: the chapter's examples, and what is about them.
func TestBreaks(t *testing.T) {
	f := fence.New(example())
	holdPassed(t, f, whole(30, 9), whole(30, 11), 1)
	holdPassed(t, f, whole(30, 9), whole(30, -1), 0)
	holdPassed(t, f, whole(30, 1), whole(30, -9), 0)
	holdBreaks(t, f, whole(30, 1), whole(30, 9))
	holdBreaks(t, f, whole(10, 9), whole(10, 11))
	holdBreaks(t, f, whole(50, 9), whole(50, 11))
	f = fence.New(pieces(whole(0, 0), whole(4, 0)))
	holdPassed(t, f, whole(1, 1), whole(1, -1), 0)
	holdBreaks(t, fence.New(api.Track{}), whole(1, 1), whole(1, -1))
}

// Promise 16.3: several pieces at once, in increasing order whatever their length and rail.
func TestBreaksSeveral(t *testing.T) {
	f := fence.New(pieces(
		whole(-1, 3), whole(1, 3),
		whole(-30000, 2), whole(30000, 2),
		whole(1, 1), whole(-1, 1),
		whole(-500, 0), whole(500, 0),
		whole(-1, -20), whole(1, -20),
		whole(-100, -3), whole(100, -3),
	))
	holdBreaks(t, f, whole(0, 5), whole(0, -5), 0, 1, 3, 5)
	holdBreaks(t, f, whole(0, -5), whole(0, 5), 2)
	holdBreaks(t, f, whole(0, 3), whole(0, 0), 0, 1)
	holdBreaks(t, f, whole(0, 0), whole(0, -1), 3)
}

// turned turns places by quarters about (0, 0).
func turned(quarters int, l ...api.V2) []api.V2 {
	l = slices.Clone(l)
	for range quarters {
		for i, p := range l {
			l[i] = parts(-p.Y, p.X)
		}
	}
	return l
}

// move is from one place to another.
type move struct{ p, q api.V2 }

// holdMoves holds moves about the piece from (0, 0) to (4, 0), all of which break it or none of which does, as they are and turned by quarters.
func holdMoves(t *testing.T, breaks bool, moves ...move) {
	t.Helper()
	for _, m := range moves {
		for quarters := range 4 {
			l := turned(quarters, whole(0, 0), whole(4, 0), m.p, m.q)
			f := fence.New(pieces(l[0], l[1]))
			if got := broken(f.Bars(), l[2], l[3]); len(got) > 0 != breaks {
				t.Fatalf("the search tells %v for %v", got, l)
			}
			if breaks {
				holdPassed(t, f, l[2], l[3], 0)
			} else {
				holdBreaks(t, f, l[2], l[3])
			}
		}
	}
}

// Promise 16.3: moves that begin on a piece, or end on it: the beginning counts, and the end does not.
func TestBreaksBegins(t *testing.T) {
	holdMoves(t, true,
		move{whole(1, 0), whole(1, -1)},
		move{parts(one, 0), parts(one, -1)},
		move{parts(one, 1), parts(one, -1)},
		move{whole(0, 0), whole(0, -1)},
		move{whole(4, 0), whole(4, -1)},
		move{whole(4, 0), whole(9, -1)},
		move{whole(0, 0), parts(-reach, -1)},
		move{whole(1, 0), parts(3*one, -1)},
	)
	holdMoves(t, false,
		move{whole(1, 1), whole(1, 0)},
		move{parts(one, 1), parts(one, 0)},
		move{whole(1, -1), whole(1, 0)},
		move{whole(1, 0), whole(1, 1)},
		move{whole(1, 0), parts(3*one, 1)},
		move{whole(0, 1), whole(0, 0)},
		move{whole(4, 0), whole(4, 1)},
		move{parts(4*one, reach), whole(4, 0)},
	)
}

// Promise 16.3: moves through an end of a piece, and past it by a part.
func TestBreaksEnds(t *testing.T) {
	holdMoves(t, true,
		move{whole(0, 1), whole(0, -1)},
		move{whole(4, 1), whole(4, -1)},
		move{whole(-1, 1), whole(1, -1)},
		move{whole(5, 1), whole(3, -1)},
		move{parts(-one, 1), parts(one, -1)},
		move{parts(-one, 1), parts(one+1, -1)},
		move{parts(4*one-1, 1), parts(4*one+1, -1)},
		move{parts(4*one+1, 1), parts(4*one-1, -1)},
		move{parts(4*one, 60*one), parts(4*one-1, -4*one)},
		move{parts(0, 60*one), parts(1, -4*one)},
	)
	holdMoves(t, false,
		move{parts(-1, one), parts(-1, -one)},
		move{parts(4*one+1, one), parts(4*one+1, -one)},
		move{parts(-one-1, 1), parts(one, -1)},
		move{parts(4*one, 1), parts(4*one+1, -1)},
		move{parts(4*one+2, 1), parts(4*one-1, -1)},
		move{parts(4*one, 60*one), parts(4*one+1, -4*one)},
		move{parts(0, 60*one), parts(-1, -4*one)},
		move{parts(-63*one, 1), parts(one, -1)},
	)
}

// Promise 16.3: moves along a piece and on its line, on one side all the way, and of no length.
func TestBreaksAlong(t *testing.T) {
	holdMoves(t, false,
		move{whole(0, 0), whole(4, 0)},
		move{whole(4, 0), whole(0, 0)},
		move{whole(1, 0), whole(3, 0)},
		move{whole(3, 0), whole(-1, 0)},
		move{whole(-1, 0), whole(5, 0)},
		move{whole(-2, 0), whole(-1, 0)},
		move{whole(5, 0), whole(6, 0)},
		move{whole(5, 0), whole(5, -1)},
		move{parts(-1, 0), parts(-1, -1)},
		move{whole(1, 2), whole(3, 1)},
		move{whole(1, -2), whole(3, -1)},
		move{parts(one, one), parts(3*one, 1)},
		move{parts(one, -1), parts(3*one, -one)},
		move{whole(1, 1), whole(1, 1)},
		move{whole(1, 0), whole(1, 0)},
		move{whole(1, -1), whole(1, -1)},
		move{whole(0, 0), whole(0, 0)},
		move{whole(4, 0), whole(4, 0)},
	)
}

// Promise 16.3: moves whose X or Y differ by 64, which count, and by more, which do not.
func TestBreaksLong(t *testing.T) {
	holdMoves(t, true,
		move{parts(2*one, reach/2), parts(2*one, -reach/2)},
		move{parts(2*one, reach-1), parts(2*one, -1)},
		move{parts(2*one, 0), parts(2*one, -reach)},
		move{parts(0, 0), parts(reach, -1)},
		move{parts(4*one, 0), parts(4*one-reach, -1)},
		move{parts(4*one, 0), parts(4*one-reach, -reach)},
		move{parts(2*one+reach/2, reach/2), parts(2*one-reach/2, -reach/2)},
		move{parts(2*one-reach/2, reach/2), parts(2*one+reach/2, -reach/2)},
	)
	holdMoves(t, false,
		move{parts(2*one, reach/2), parts(2*one, -reach/2-1)},
		move{parts(2*one, reach/2+1), parts(2*one, -reach/2)},
		move{parts(2*one, reach), parts(2*one, -1)},
		move{parts(2*one, 0), parts(2*one, -reach-1)},
		move{parts(0, 0), parts(reach+1, -1)},
		move{parts(4*one, 0), parts(4*one-reach-1, -1)},
		move{parts(4*one, 0), parts(4*one-reach-1, -reach)},
		move{parts(4*one, 0), parts(4*one-reach, -reach-1)},
		move{parts(2*one+reach/2+1, reach/2), parts(2*one-reach/2, -reach/2)},
		move{parts(2*one-reach/2, reach/2), parts(2*one+reach/2+1, -reach/2)},
		move{parts(2*one, most), parts(2*one, -most)},
		move{parts(2*one+most/2, 1), parts(2*one-most/2, -1)},
		move{parts(2*one, 1<<62), parts(2*one, -(1 << 62))},
		move{parts(greatest, greatest), parts(-greatest, -greatest)},
	)
}

// Promise 16.3: moves at MaxExtent, and from or to a place beyond it.
func TestBreaksExtent(t *testing.T) {
	for quarters := range 4 {
		hold := func(p, q api.V2, want ...int) {
			t.Helper()
			l := turned(quarters, parts(most-8*one, most-one), parts(most, most-one), p, q)
			holdBreaks(t, fence.New(pieces(l[0], l[1])), l[2], l[3], want...)
		}
		hold(parts(most, most), parts(most, most-reach), 0)
		hold(parts(most-one, most), parts(most-one, most-2*one), 0)
		hold(parts(most-4*one, most-one), parts(most, most-one-1), 0)
		hold(parts(most, most-2*one), parts(most, most))
		hold(parts(most, most+1), parts(most, most-2*one))
		hold(parts(most-one, most+1), parts(most-one, most-2*one))
		hold(parts(most+1, most-one), parts(most, most-2*one))
		hold(parts(most, most), parts(most+1, most-2*one))
		hold(parts(most-8*one, most), parts(most+1, most-reach))
	}
	for _, c := range strays() {
		level := fence.New(pieces(whole(0, 0), whole(4, 0), parts(c, 0), parts(0, 0), parts(0, 0), parts(c, 0)))
		upright := fence.New(pieces(whole(0, 4), whole(0, 0), parts(0, c), parts(0, 0), parts(0, 0), parts(0, c)))
		for _, n := range []api.Fx{one, c, 0, most, -most} {
			holdBreaks(t, level, parts(n, c), parts(2*one, -one))
			holdBreaks(t, level, parts(2*one, one), parts(n, c))
			holdBreaks(t, upright, parts(c, n), parts(-one, 2*one))
			holdBreaks(t, upright, parts(one, 2*one), parts(c, n))
			holdBreaks(t, level, parts(c, n), parts(c, -n))
			holdBreaks(t, upright, parts(n, c), parts(-n, c))
		}
		holdBreaks(t, level, parts(2*one, one), parts(2*one, -one), 0)
		holdBreaks(t, upright, parts(one, 2*one), parts(-one, 2*one), 0)
	}
}

// Promise 16.3: no move breaks a piece with an end beyond MaxExtent, as Side and Meets tell nothing of it.
func TestBreaksStrays(t *testing.T) {
	for _, c := range append(strays(), most, -most) {
		want := []int{}
		if c == most || c == -most {
			want = append(want, 0)
		}
		sign := api.Fx(1)
		if c < 0 {
			sign = -1
		}
		holdBreaks(t, fence.New(pieces(parts(0, 0), parts(c, 0))), parts(sign*one, sign*one), parts(sign*one, -sign*one), want...)
		holdBreaks(t, fence.New(pieces(parts(c, 0), parts(0, 0))), parts(sign*one, -sign*one), parts(sign*one, sign*one), want...)
		holdBreaks(t, fence.New(pieces(parts(0, 0), parts(0, c))), parts(-sign*one, sign*one), parts(sign*one, sign*one), want...)
		holdBreaks(t, fence.New(pieces(parts(0, c), parts(0, 0))), parts(sign*one, sign*one), parts(-sign*one, sign*one), want...)
	}
	// A piece of no length has no sides.
	f := fence.New(pieces(whole(1, 1), whole(1, 1)))
	holdBreaks(t, f, whole(1, 2), whole(1, 0))
	holdBreaks(t, f, whole(1, 0), whole(1, 2))
	holdBreaks(t, f, whole(1, 1), whole(1, 0))
}

// Promise 16.3: the chapter's example, and what is about it.
func TestBehind(t *testing.T) {
	f := fence.New(example())
	holdBehind(t, f, whole(30, 13), 4*one, 1, 3*one)
	holdBehind(t, f, whole(30, 14), 4*one, 1, 4*one)
	holdBehind(t, f, parts(30*one, 14*one+1), 4*one, -1, 0)
	holdBehind(t, f, whole(30, 15), 4*one, -1, 0)
	holdBehind(t, f, whole(30, 10), 4*one, -1, 0)
	holdBehind(t, f, whole(30, 9), 4*one, -1, 0)
	holdBehind(t, f, whole(30, 0), 4*one, -1, 0)
	holdBehind(t, f, whole(30, -2), 4*one, 0, 2*one)
	holdBehind(t, f, parts(30*one, -1), 4*one, 0, 1)
	holdBehind(t, f, parts(30*one, 10*one+1), 0, -1, 0)
	holdBehind(t, f, parts(30*one, 10*one+1), 1, 1, 1)
	holdBehind(t, f, parts(30*one, 10*one+2), 1, -1, 0)
	// Beside the ends it is behind nothing.
	for _, x := range []api.Fx{20 * one, 20*one + 1, 40 * one} {
		holdBehind(t, f, parts(x, 13*one), 4*one, 1, 3*one)
	}
	holdBehind(t, f, parts(20*one-1, 13*one), 4*one, -1, 0)
	holdBehind(t, f, parts(40*one+1, 13*one), 4*one, -1, 0)
	holdBehind(t, fence.New(api.Track{}), whole(1, -1), 4*one, -1, 0)
	holdBehind(t, fence.New(pieces(whole(1, 1), whole(1, 1))), whole(1, 0), 4*one, -1, 0)
}

// Promise 16.3: of several pieces that by which a place is least behind, and the first one of several; those in front of which it is, and those farther off, do not count.
func TestBehindSeveral(t *testing.T) {
	f := fence.New(pieces(
		whole(-9, 4), whole(9, 4),
		whole(-9000, 3), whole(9000, 3),
		whole(-9, 2), whole(9, 2),
		whole(9, 1), whole(-9, 1),
		whole(-900, 2), whole(900, 2),
		whole(-9, 2), whole(9, 2),
		whole(-2, 9), whole(-2, -9),
	))
	holdBehind(t, f, whole(0, 0), 4*one, 2, 2*one)
	holdBehind(t, f, whole(20, 0), 4*one, 4, 2*one)
	holdBehind(t, f, whole(2000, 0), 4*one, 1, 3*one)
	holdBehind(t, f, whole(0, 0), 2*one, 2, 2*one)
	holdBehind(t, f, whole(0, 0), 2*one-1, -1, 0)
	holdBehind(t, f, parts(0, 2*one), 4*one, 1, one)
	holdBehind(t, f, parts(0, 2*one+1), 4*one, 1, one-1)
	holdBehind(t, f, parts(0, 3*one), 4*one, 0, one)
	holdBehind(t, f, whole(0, 4), 4*one, 3, 3*one)
	holdBehind(t, f, parts(0, 2*one-1), 4*one, 2, 1)
	holdBehind(t, f, parts(0, 3*one-1), 4*one, 1, 1)
	holdBehind(t, f, parts(0, 4*one-1), reach, 0, 1)
	holdBehind(t, f, parts(-2*one-1, 0), 4*one, 6, 1)
	holdBehind(t, f, whole(-4, 0), 4*one, 2, 2*one)
	holdBehind(t, f, parts(-4*one+1, 0), 4*one, 6, 2*one-1)
	holdBehind(t, f, whole(-4, -50), reach, 2, 52*one)
	holdBehind(t, f, whole(0, 5), one, -1, 0)
	holdBehind(t, f, whole(0, 5), 4*one, 3, 4*one)
	holdBehind(t, f, whole(0, -70), reach, -1, 0)
	holdBehind(t, f, whole(0, -60), reach, 2, 62*one)
}

// Promise 16.3: depths at both bounds, beyond them, and at the ends of their range.
func TestBehindDeep(t *testing.T) {
	for quarters := range 4 {
		hold := func(y, deep api.Fx, index int, by api.Fx) {
			t.Helper()
			l := turned(quarters, whole(0, 0), whole(8, 0), parts(4*one, y))
			holdBehind(t, fence.New(pieces(l[0], l[1])), l[2], deep, index, by)
		}
		for _, deep := range []api.Fx{1, 2, one, 4 * one, reach - 1, reach} {
			hold(-deep, deep, 0, deep)
			hold(-deep-1, deep, -1, 0)
			hold(0, deep, -1, 0)
			hold(deep, deep, -1, 0)
		}
		for _, deep := range []api.Fx{2, one, reach} {
			hold(1-deep, deep, 0, deep-1)
		}
		hold(-1, 0, -1, 0)
		hold(0, 0, -1, 0)
		for _, deep := range []api.Fx{-1, -one, -reach, reach + 1, reach + one, 2 * reach, most, greatest, least, least + 1, 1 << 62, -1 << 62} {
			hold(-1, deep, -1, 0)
			hold(-reach, deep, -1, 0)
			hold(0, deep, -1, 0)
		}
	}
}

// Promise 16.3: what is told of very short and of slanting pieces is rounded up, and that counts, not the true distance.
func TestBehindRounded(t *testing.T) {
	// The length, the root of 2 parts, is rounded down to 1 part: the place is 1.4 parts off, and 2 are told.
	f := fence.New(pieces(parts(0, 0), parts(1, 1)))
	holdBehind(t, f, parts(1, -1), 2, 0, 2)
	holdBehind(t, f, parts(1, -1), 1, -1, 0)
	holdBehind(t, f, parts(1, 0), 1, 0, 1)
	holdBehind(t, f, parts(reach, 1-reach), reach, -1, 0)
	holdBehind(t, f, parts(reach/2, 1-reach/2), reach, 0, reach-1)
	holdBehind(t, f, parts(reach/2+1, -reach/2), reach, -1, 0)
	f = fence.New(pieces(whole(0, 0), whole(4, 4)))
	// The root of 8 is less than 12148002000 parts, and 12148002001 are told.
	holdBehind(t, f, whole(4, 0), 4*one, 0, 12148002001)
	holdBehind(t, f, whole(4, 0), 12148002001, 0, 12148002001)
	holdBehind(t, f, whole(4, 0), 12148002000, -1, 0)
}

// Promise 16.3: places at MaxExtent and beyond it, and pieces that go beyond it, behind which nothing is.
func TestBehindExtent(t *testing.T) {
	for quarters := range 4 {
		hold := func(x, y api.Fx, index int, by api.Fx) {
			t.Helper()
			l := turned(quarters, parts(most-8*one, most), parts(most-8*one, most-8*one), parts(x, y))
			f := fence.New(pieces(l[1], l[0], l[0], moved(l[0], 2*(l[0].X-l[1].X), 2*(l[0].Y-l[1].Y))))
			holdBehind(t, f, l[2], reach, index, by)
		}
		hold(most, most, 0, 8*one)
		hold(most, most-8*one, 0, 8*one)
		hold(most, most-8*one-1, -1, 0)
		hold(most+1, most, -1, 0)
		hold(most, most+1, -1, 0)
		hold(most+1, most+1, -1, 0)
		hold(most-8*one, most, -1, 0)
		hold(most-8*one+1, most, 0, 1)
	}
	for _, c := range strays() {
		f := fence.New(pieces(whole(-4, 0), whole(4, 0), parts(-one, one), parts(c, one), parts(c, -9*one), parts(-one, -9*one)))
		holdBehind(t, f, whole(0, -1), reach, 0, one)
		for _, n := range []api.Fx{0, -one, c, most, -most} {
			holdBehind(t, f, parts(n, c), reach, -1, 0)
			holdBehind(t, f, parts(c, n), reach, -1, 0)
		}
	}
}

// drawer makes tracks and places by a fixed rule.
type drawer struct{ *rand.Rand }

func draw(seed uint64) drawer { return drawer{rand.New(rand.NewPCG(16, seed))} }

// upTo is a number of a size of at most so many parts.
func (d drawer) upTo(n api.Fx) api.Fx { return api.Fx(d.Int64N(int64(2*n)+1)) - n }

// off is some parts at most, none more often than not.
func (d drawer) off() api.Fx { return max(0, api.Fx(d.IntN(4))-2) * api.Fx(1-2*d.IntN(2)) }

// length is how far places are from one another along an axis, of every order of size up to a bound.
func (d drawer) length(bound api.Fx) api.Fx {
	switch d.IntN(8) {
	case 0:
		return 0
	case 1:
		return api.Fx(1-2*d.IntN(2))*min(bound, one<<(4+d.IntN(6))) + d.off()
	}
	return d.upTo(bound) >> d.IntN(12)
}

// about is a place about another one.
func (d drawer) about(p api.V2, bound api.Fx) api.V2 {
	return moved(p, d.length(bound), d.length(bound))
}

// middle is a place about which a track is: where cells of some size end, or anywhere, or at the bounds.
func (d drawer) middle() api.V2 {
	switch d.IntN(6) {
	case 0:
		return api.V2{}
	case 1:
		return whole(api.Fx(64*d.IntN(9)-256), api.Fx(64*d.IntN(9)-256))
	case 2:
		return parts([]api.Fx{most, -most, far, 0}[d.IntN(4)], []api.Fx{most, -most, far, 0}[d.IntN(4)])
	}
	return parts(d.upTo(most), d.upTo(most))
}

// rails is a track whose rails wander about a place; a few points are very far off.
func (d drawer) rails(middle api.V2) api.Track {
	t := api.Track{}
	for range 1 + d.IntN(12) {
		l := []api.V2{}
		p := d.about(middle, 200*one)
		for range d.IntN(8) {
			if d.IntN(40) == 0 {
				l = append(l, parts(api.Fx(d.Uint64()), api.Fx(d.Uint64())>>d.IntN(20)))
				continue
			}
			l = append(l, p)
			p = d.about(p, []api.Fx{2 * one, 60 * one, 300 * one, 10000 * one}[d.IntN(4)])
		}
		t.Rails = append(t.Rails, l)
	}
	return t
}

// place is one about a piece of a rail: an end of it, its box, itself.
func (d drawer) place(bars []api.Bar, middle api.V2) api.V2 {
	if len(bars) == 0 || d.IntN(6) == 0 {
		return d.about(middle, 200*one)
	}
	b := bars[d.IntN(len(bars))]
	switch d.IntN(4) {
	case 0:
		return d.about(b.A, reach)
	case 1:
		return moved(parts(b.A.X, b.B.Y), d.off(), d.off())
	}
	n := api.Fx(d.IntN(65))
	p := moved(b.A, (b.B.X>>6-b.A.X>>6)*n, (b.B.Y>>6-b.A.Y>>6)*n)
	return d.about(p, []api.Fx{1, one, 5 * one, reach}[d.IntN(4)])
}

// distance is one that is asked for, or one that may not be.
func (d drawer) distance() api.Fx {
	switch d.IntN(12) {
	case 0:
		return []api.Fx{-1, reach + 1, least, greatest, 2 * reach}[d.IntN(5)]
	case 1:
		return []api.Fx{0, 1, reach, reach - 1}[d.IntN(4)]
	}
	return (d.upTo(reach/2) + reach/2) >> d.IntN(8)
}

// number tells how often something was drawn.
type number map[string]int

// holdOften holds how often each kind was drawn.
func (n number) holdOften(t *testing.T, often int, kinds ...string) {
	t.Helper()
	for _, k := range kinds {
		if n[k] < often {
			t.Errorf("%s: drawn %d times, less than %d", k, n[k], often)
		}
	}
}

// counted counts an answer of so many pieces.
func (n number) counted(word string, pieces int) {
	n[word+[]string{" none", " one", " several"}[min(pieces, 2)]]++
}

// Promises 16.2 and 16.3: drawn rails: every answer is that of a search of all pieces.
func TestDrawn(t *testing.T) {
	d, n := draw(1), number{}
	for range 1500 {
		middle := d.middle()
		tr := d.rails(middle)
		f, bars := fence.New(tr), track.Bars(tr)
		for range 40 {
			p, distance := d.place(bars, middle), d.distance()
			near := listed(bars, p, distance)
			holdAround(t, f, p, distance, near...)
			n.counted("around", len(near))
			index, by := deepest(bars, p, distance)
			holdBehind(t, f, p, distance, index, by)
			n.counted("behind", 1+min(index, 0))
			if index > 0 {
				n["behind a later one"]++
			}
			q := d.about(p, []api.Fx{one, 8 * one, reach, reach, 2 * reach}[d.IntN(5)])
			if d.IntN(3) == 0 {
				q = moved(p, p.X-q.X>>3, p.Y-q.Y>>3)
			}
			passed := broken(bars, p, q)
			holdBreaks(t, f, p, q, passed...)
			n.counted("breaks", len(passed))
		}
	}
	n.holdOften(t, 300, "around none", "around one", "around several", "behind none", "behind one", "behind a later one", "breaks none", "breaks one", "breaks several")
}

// Promise 16.3: drawn rails on a small grid, where places are often on pieces, behind several by the same value, and moves along them.
func TestDrawnGrid(t *testing.T) {
	d, n := draw(2), number{}
	for range 1500 {
		middle := []api.V2{{}, whole(64, -64), whole(-32768, 128), parts(most, most), parts(-most, 0)}[d.IntN(5)]
		step := []api.Fx{1, one, 16 * one, reach}[d.IntN(4)]
		spot := func() api.V2 { return moved(middle, step*api.Fx(d.IntN(5)-2), step*api.Fx(d.IntN(5)-2)) }
		tr := api.Track{}
		for range 1 + d.IntN(10) {
			l := []api.V2{}
			for range d.IntN(5) {
				l = append(l, spot())
			}
			tr.Rails = append(tr.Rails, l)
		}
		f, bars := fence.New(tr), track.Bars(tr)
		for range 30 {
			p, q, distance := spot(), spot(), step*api.Fx(d.IntN(3))
			holdAround(t, f, p, distance, listed(bars, p, distance)...)
			index, by := deepest(bars, p, distance)
			holdBehind(t, f, p, distance, index, by)
			if index >= 0 && same(bars[index+1:], p, by) {
				n["behind two by the same"]++
			}
			passed := broken(bars, p, q)
			holdBreaks(t, f, p, q, passed...)
			n.counted("breaks", len(passed))
		}
	}
	n.holdOften(t, 1000, "behind two by the same", "breaks none", "breaks one", "breaks several")
}

// same tells whether a place is behind one of several pieces by a value.
func same(bars []api.Bar, p api.V2, by api.Fx) bool {
	for _, b := range bars {
		if !beyond(b.A, b.B) && behind(b.A, b.B, p) == by {
			return true
		}
	}
	return false
}

// Promise 16.4: what a move breaks is not broken by the opposite one.
func TestOpposite(t *testing.T) {
	d, n := draw(3), number{}
	for range 3000 {
		middle := d.middle()
		tr := d.rails(middle)
		f := fence.New(tr)
		for range 30 {
			p := d.place(f.Bars(), middle)
			q := d.about(p, []api.Fx{one, 8 * one, reach}[d.IntN(3)])
			there, back := f.Breaks(p, q), f.Breaks(q, p)
			for _, i := range there {
				if slices.Contains(back, i) {
					t.Fatalf("piece %d of %v is broken from %v to %v and back", i, tr.Rails, p, q)
				}
			}
			n.counted("there", len(there))
			n.counted("back", len(back))
		}
	}
	n.holdOften(t, 500, "there one", "there several", "back one", "back several")
}

// Promises 16.2 and 16.3: indices increase, so that none is told twice, and none is that of no piece, even among pieces of all sizes at one place.
func TestIncreasing(t *testing.T) {
	tr := api.Track{}
	for i := range 300 {
		long := one << (i * 7 % 17)
		tr.Rails = append(tr.Rails, []api.V2{parts(-long, 0), parts(long, 0)}, []api.V2{parts(long, 1), parts(-long, 1)})
	}
	f := fence.New(tr)
	evens, every := []int{}, []int{}
	for i := range 600 {
		if every = append(every, i); i%2 == 0 {
			evens = append(evens, i)
		}
	}
	holdAround(t, f, whole(0, 0), 1, every...)
	holdAround(t, f, whole(0, 0), 0, evens...)
	holdBreaks(t, f, whole(0, 32), whole(0, -32), evens...)
	holdBehind(t, f, parts(0, -1), reach, 0, 1)
	holdBehind(t, f, parts(0, 2), reach, 1, 1)
	holdBehind(t, f, parts(one, 2), reach, 1, 1)
	holdBehind(t, f, parts(200*one, 2), reach, 5, 1)
}

// Rule R1: a nil fence has no pieces.
func TestNil(t *testing.T) {
	var f *fence.Fence
	if l := f.Bars(); len(l) > 0 {
		t.Fatalf("Bars of nil = %v", l)
	}
	for _, c := range []api.Fx{0, one, -one, most, -most, most + 1, least, greatest} {
		for _, n := range []api.Fx{0, 1, one, reach, reach + 1, -1, least, greatest} {
			holdAround(t, f, parts(c, n), n)
			holdBehind(t, f, parts(n, c), n, -1, 0)
			holdBreaks(t, f, parts(c, n), parts(c, 0))
			holdBreaks(t, f, parts(0, n), parts(n, 0))
		}
	}
}

// Rule R1: every answer comes, for the wildest of rails, places and distances.
func TestWild(t *testing.T) {
	d := draw(4)
	wild := func() api.Fx {
		if d.IntN(3) == 0 {
			return []api.Fx{least, least + 1, greatest, greatest - 1, most, -most, most + reach, -most - reach, 0, -1}[d.IntN(10)]
		}
		return api.Fx(d.Uint64()) >> d.IntN(64)
	}
	for range 2000 {
		tr := api.Track{}
		for range d.IntN(4) {
			l := []api.V2{}
			for range d.IntN(6) {
				l = append(l, parts(wild(), wild()))
			}
			tr.Rails = append(tr.Rails, l)
		}
		f, bars := fence.New(tr), track.Bars(tr)
		for range 10 {
			p, q, n := parts(wild(), wild()), parts(wild(), wild()), wild()
			holdAround(t, f, p, n, listed(bars, p, n)...)
			holdBreaks(t, f, p, q, broken(bars, p, q)...)
			index, by := deepest(bars, p, n)
			holdBehind(t, f, p, n, index, by)
		}
	}
}

// Rule R4: a fence has its own memory: it does not change with the track, and what it returns can be changed.
func TestMemory(t *testing.T) {
	tr := example()
	f := fence.New(tr)
	want := slices.Clone(f.Bars())
	hold := func() {
		t.Helper()
		if got := f.Bars(); !slices.Equal(got, want) {
			t.Fatalf("Bars = %v, not %v", got, want)
		}
		holdAround(t, f, whole(30, 5), 5*one, 0, 1)
		holdBreaks(t, f, whole(30, 12), whole(30, -12), 0)
		holdBreaks(t, f, whole(30, 9), whole(30, 12), 1)
		holdBehind(t, f, whole(30, 13), 4*one, 1, 3*one)
	}
	hold()
	tr.Rails[0][0], tr.Rails[0][1], tr.Rails[1] = whole(7, 7), whole(7, 8), nil
	hold()
	l := f.Bars()
	l[0], l[1] = api.Bar{}, api.Bar{A: whole(1, 1), Rail: 9}
	_ = append(l[:1], api.Bar{Rail: 5})
	hold()
	near, passed := f.Around(whole(30, 5), 5*one), f.Breaks(whole(30, 9), whole(30, 12))
	near[0], near[1], passed[0] = 7, -7, 9
	_ = append(append(near[:0], 5, 5, 5), append(passed, 3, 3)...)
	hold()
	// Two answers share no memory either.
	first, second := f.Bars(), f.Bars()
	first[0].Rail = 8
	if second[0].Rail != 0 {
		t.Fatal("two lists of pieces share memory")
	}
	hold()
}

// Rule R4: nothing of the track that is handed in is changed, not even behind the ends of its lists.
func TestUnchanged(t *testing.T) {
	d := draw(5)
	for range 300 {
		tr := d.rails(d.middle())
		for i, l := range tr.Rails {
			tr.Rails[i] = spare(l, whole(3, 3))
		}
		tr.Rails = spare(tr.Rails, []api.V2{whole(1, 2)})
		before := copied(tr)
		f := fence.New(tr)
		for range 10 {
			p, q := d.place(f.Bars(), api.V2{}), d.about(api.V2{}, reach)
			f.Around(p, reach)
			f.Breaks(p, q)
			f.Behind(q, reach)
		}
		if !reflect.DeepEqual(tr, before) {
			t.Fatalf("%v has become %v", before.Rails, tr.Rails)
		}
		if behind := tr.Rails[:len(tr.Rails)+1][len(tr.Rails)]; !slices.Equal(behind, []api.V2{whole(1, 2)}) {
			t.Fatalf("behind the rails is %v", behind)
		}
		for _, l := range tr.Rails {
			if behind := l[:len(l)+1][len(l)]; behind != whole(3, 3) {
				t.Fatalf("behind a rail is %v", behind)
			}
		}
	}
}

// Rule R5: answers depend on the rails and the arguments only: not on other parts of the track, on what was asked before, or on which fence of equal tracks is asked.
func TestSame(t *testing.T) {
	d := draw(6)
	for range 200 {
		middle := d.middle()
		tr := d.rails(middle)
		other := copied(tr)
		other.Rate, other.Laps, other.Cell, other.Start, other.Gates = 7, -3, least, middle, make([]api.Gate, 99)
		f, g := fence.New(tr), fence.New(other)
		if !slices.Equal(f.Bars(), g.Bars()) {
			t.Fatalf("the pieces of %v differ", tr.Rails)
		}
		for range 20 {
			p, n := d.place(f.Bars(), middle), d.distance()
			q := d.about(p, reach)
			index, by := f.Behind(p, n)
			for range 3 {
				holdAround(t, g, p, n, f.Around(p, n)...)
				holdBreaks(t, g, p, q, f.Breaks(p, q)...)
				holdBehind(t, g, p, n, index, by)
				f, g = g, f
			}
		}
	}
}

// Promises 16.1 to 16.3: as many pieces as are allowed, each as long as it may be, and many more of any length: a fence does not grow with their length.
func TestGreat(t *testing.T) {
	long := api.Track{}
	for i := range api.MaxRails {
		l := []api.V2{}
		for k := range api.MaxRail {
			l = append(l, []api.V2{parts(-far, -far+api.Fx(i)*one), parts(far, far-api.Fx(k)*one)}[k%2])
		}
		long.Rails = append(long.Rails, l)
	}
	wild := api.Track{}
	for i := range 200 {
		l := []api.V2{}
		for k := range 100 {
			l = append(l, []api.V2{parts(least, least+api.Fx(i)), parts(greatest-api.Fx(k), greatest)}[k%2])
		}
		wild.Rails = append(wild.Rails, l)
	}
	for _, tr := range []api.Track{long, wild} {
		bars := track.Bars(tr)
		var before, after runtime.MemStats
		runtime.ReadMemStats(&before)
		f := fence.New(tr)
		runtime.ReadMemStats(&after)
		if grown := after.TotalAlloc - before.TotalAlloc; grown > uint64(len(bars))*1000 {
			t.Fatalf("a fence of %d pieces takes %d bytes", len(bars), grown)
		}
		for _, p := range []api.V2{{}, whole(-64, 64), whole(31000, -31000), parts(far, far), parts(-far, -far), parts(most, most)} {
			holdAround(t, f, p, reach, listed(bars, p, reach)...)
			q := moved(p, -reach, reach)
			holdBreaks(t, f, p, q, broken(bars, p, q)...)
			holdBreaks(t, f, q, p, broken(bars, q, p)...)
			index, by := deepest(bars, p, reach)
			holdBehind(t, f, p, reach, index, by)
		}
	}
}
