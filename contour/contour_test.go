package contour

import (
	"cmp"
	"math"
	"math/rand"
	"slices"
	"testing"

	"additive/api"
	"additive/planar"
)

const far = 1 << 24 // the greatest coordinate of a valid point

// pts returns points whose coordinates are given in pairs.
func pts(coordinates ...int) []api.Pt {
	l := []api.Pt{}
	for i := 0; i < len(coordinates); i += 2 {
		l = append(l, api.Pt{X: coordinates[i], Y: coordinates[i+1]})
	}
	return l
}

// segs returns segments whose ends are given in fours of coordinates.
func segs(coordinates ...int) []api.Seg {
	l := []api.Seg{}
	p := pts(coordinates...)
	for i := 0; i < len(p); i += 2 {
		l = append(l, api.Seg{A: p[i], B: p[i+1]})
	}
	return l
}

func polys(l ...[]api.Pt) []api.Poly {
	var p []api.Poly
	for _, points := range l {
		p = append(p, api.Poly{Pts: points})
	}
	return p
}

func same(a, b []api.Poly) bool {
	return slices.EqualFunc(a, b, func(p, q api.Poly) bool { return slices.Equal(p.Pts, q.Pts) })
}

// square returns the corners of a square, counterclockwise.
func square(x, y, size int) []api.Pt {
	return pts(x, y, x+size, y, x+size, y+size, x, y+size)
}

// P16.1.
func TestBalanced(t *testing.T) {
	for _, q := range []struct {
		l    []api.Seg
		want bool
	}{
		{nil, true},
		{segs(1, 2, 1, 2), true},
		{segs(0, 0, 1, 0), false},
		{segs(0, 0, 1, 0, 1, 0, 0, 0), true},
		{segs(0, 0, 1, 0, 0, 0, 1, 0), false},
		{segs(0, 0, 1, 0, 1, 0, 1, 1, 1, 1, 0, 0), true},
		{segs(0, 0, 1, 0, 1, 0, 1, 1, 0, 0, 1, 1), false},
		{segs(0, 0, 1, 0, 1, 0, 0, 0, 0, 0, 1, 0), false},
		{segs(math.MaxInt, math.MinInt, 0, 0, 0, 0, math.MaxInt, math.MinInt), true},
	} {
		if got := Balanced(q.l); got != q.want {
			t.Errorf("Balanced(%v) = %v", q.l, got)
		}
	}
}

// P16.2.
func TestChain(t *testing.T) {
	for _, q := range []struct {
		l    []api.Seg
		want []api.Poly
		e    api.Errno
	}{
		{l: segs(0, 0, 1, 0, 1, 1, 0, 0, 1, 0, 1, 1, 5, 5, 5, 5), want: polys(pts(0, 0, 1, 0, 1, 1))},
		{l: nil},
		{l: segs(0, 0, 0, 0, 3, 3, 3, 3)},
		{l: segs(4, 4, 0, 9, 0, 9, 4, 4), want: polys(pts(0, 9, 4, 4))},
		// The same segments twice.
		{l: segs(0, 0, 1, 0, 1, 0, 0, 0, 0, 0, 1, 0, 1, 0, 0, 0), want: polys(pts(0, 0, 1, 0), pts(0, 0, 1, 0))},
		// Two triangles with a common point: it is passed twice, unless it is the first point.
		{l: segs(0, 0, 2, 1, 2, 1, 0, 2, 0, 2, 0, 0, 2, 1, 4, 0, 4, 0, 4, 2, 4, 2, 2, 1), want: polys(pts(0, 0, 2, 1, 0, 2), pts(2, 1, 4, 0, 4, 2))},
		{l: segs(0, 0, 2, 1, 2, 1, 3, 2, 3, 2, 0, 0, 2, 1, 3, 0, 3, 0, 4, 2, 4, 2, 2, 1), want: polys(pts(0, 0, 2, 1, 3, 0, 4, 2, 2, 1, 3, 2))},
		{l: segs(0, 0, 2, 1, 2, 1, 0, 0, 0, 0, 1, 1, 1, 1, 0, 0), want: polys(pts(0, 0, 1, 1), pts(0, 0, 2, 1))},
		{l: segs(-far, far, far, -far, far, -far, -far, far), want: polys(pts(-far, far, far, -far))},
		{l: segs(0, 0, 1, 0), e: api.ErrOpen},
		{l: segs(0, 0, 1, 0, 1, 0, 0, 0, 1, 1, 2, 2), e: api.ErrOpen},
		{l: segs(0, 0, far+1, 0), e: api.ErrRange},
		{l: segs(0, -far-1, 0, -far-1), e: api.ErrRange},
		{l: segs(0, 0, 0, math.MaxInt, 0, math.MaxInt, 0, 0), e: api.ErrRange},
		{l: make([]api.Seg, 8192)},
		{l: make([]api.Seg, 8193), e: api.ErrLimit},
		{l: append(make([]api.Seg, 8192), segs(0, 0, math.MaxInt, 0)...), e: api.ErrLimit},
	} {
		given := slices.Clone(q.l)
		got, e := Chain(q.l)
		if !same(got, q.want) || e != q.e || !slices.Equal(q.l, given) {
			t.Errorf("Chain(%v) = %v, %d; want %v, %d", q.l, got, e, q.want, q.e)
		}
	}
}

// order compares segments by A.X, A.Y, B.X and B.Y.
func order(s, t api.Seg) int {
	return cmp.Or(cmp.Compare(s.A.X, t.A.X), cmp.Compare(s.A.Y, t.A.Y), cmp.Compare(s.B.X, t.B.X), cmp.Compare(s.B.Y, t.B.Y))
}

// chain joins balanced segments by searching the least one again and again.
func chain(l []api.Seg) []api.Poly {
	left := slices.DeleteFunc(slices.Clone(l), func(s api.Seg) bool { return s.A == s.B })
	slices.SortFunc(left, order)
	take := func(fits func(api.Seg) bool) api.Seg {
		i := slices.IndexFunc(left, fits)
		s := left[i]
		left = slices.Delete(left, i, i+1)
		return s
	}
	var contours []api.Poly
	for len(left) > 0 {
		s := take(func(api.Seg) bool { return true })
		first, points := s.A, []api.Pt{s.A}
		for s.B != first {
			points = append(points, s.B)
			at := s.B
			s = take(func(n api.Seg) bool { return n.A == at })
		}
		contours = append(contours, api.Poly{Pts: points})
	}
	return contours
}

// randomPolys returns polygons whose points are on a small grid.
func randomPolys(random *rand.Rand, count, points, size int) []api.Poly {
	var l []api.Poly
	for range random.Intn(count + 1) {
		p := api.Poly{}
		for range random.Intn(points + 1) {
			p.Pts = append(p.Pts, api.Pt{X: random.Intn(size) - size/2, Y: random.Intn(size) - size/2})
		}
		l = append(l, p)
	}
	return l
}

// P16.2, P16.3, P16.5.
func TestChainOfPolygons(t *testing.T) {
	random := rand.New(rand.NewSource(21))
	for range 1500 {
		p := randomPolys(random, 5, 7, 2+random.Intn(4))
		l := Segs(p)
		if !Balanced(l) {
			t.Errorf("the segments of %v are not balanced", p)
		}
		random.Shuffle(len(l), func(i, j int) { l[i], l[j] = l[j], l[i] })
		got, e := Chain(l)
		if want := chain(l); !same(got, want) || e != api.OK {
			t.Errorf("Chain(%v) = %v, %d; want %v", l, got, e, want)
		}
		for _, c := range got {
			if len(c.Pts) < 2 || slices.Contains(c.Pts[1:], c.Pts[0]) {
				t.Errorf("Chain(%v) has the contour %v", l, c)
			}
		}
		used := slices.SortedFunc(slices.Values(Segs(got)), order)
		given := slices.DeleteFunc(slices.SortedFunc(slices.Values(l), order), func(s api.Seg) bool { return s.A == s.B })
		if !slices.Equal(used, given) {
			t.Errorf("Chain(%v) uses %v", l, used)
		}
		if again, e := Chain(Segs(got)); !same(again, got) || e != api.OK {
			t.Errorf("Chain of the segments of %v = %v, %d", got, again, e)
		}
	}
}

// P16.3.
func TestSegs(t *testing.T) {
	for _, q := range []struct {
		l    []api.Poly
		want []api.Seg
	}{
		{nil, nil},
		{polys(nil, pts(), nil), nil},
		{polys(pts(3, 4)), segs(3, 4, 3, 4)},
		{polys(pts(1, 2, 3, 4)), segs(1, 2, 3, 4, 3, 4, 1, 2)},
		{polys(pts(5, 5, 5, 5)), segs(5, 5, 5, 5, 5, 5, 5, 5)},
		{polys(pts(0, 0, 1, 0, 1, 1), nil, pts(7, 7)), segs(0, 0, 1, 0, 1, 0, 1, 1, 1, 1, 0, 0, 7, 7, 7, 7)},
		{polys(pts(math.MaxInt, 0)), segs(math.MaxInt, 0, math.MaxInt, 0)},
	} {
		if got := Segs(q.l); !slices.Equal(got, q.want) {
			t.Errorf("Segs(%v) = %v; want %v", q.l, got, q.want)
		}
	}
}

// simplify removes the first vertex that is no turn, again and again.
func simplify(points []api.Pt) []api.Pt {
	l := slices.Clone(points)
	for i := 0; i < len(l); i++ {
		if planar.Turn(l[(i+len(l)-1)%len(l)], l[i], l[(i+1)%len(l)]) == 0 {
			l = slices.Delete(l, i, i+1)
			i = -1
		}
	}
	return l
}

// P16.4.
func TestSimplify(t *testing.T) {
	for _, q := range []struct{ p, want []api.Pt }{
		{pts(0, 0, 1, 0, 2, 0, 2, 2), pts(0, 0, 2, 0, 2, 2)},
		{pts(0, 0, 1, 0, 2, 0), nil},
		{nil, nil},
		{pts(1, 1), nil},
		{pts(1, 1, 2, 2), nil},
		{pts(1, 1, 1, 1, 1, 1), nil},
		{square(0, 0, 5), square(0, 0, 5)},
		{pts(1, 0, 2, 0, 2, 2, 0, 2, 0, 0), pts(2, 0, 2, 2, 0, 2, 0, 0)},
		{pts(0, 0, 2, 0, 2, 2, 0, 2, 0, 1), square(0, 0, 2)},
		// Removing the last vertex makes the first one superfluous.
		{pts(2, 0, 4, 0, 4, 4, 0, 4, 0, 0, 0, -3, 0, 0), pts(4, 0, 4, 4, 0, 4, 0, 0)},
		{pts(0, 0, 0, 0, 4, 0, 4, 0, 0, 4, 0, 4), pts(0, 0, 4, 0, 0, 4)},
		// Points that are not valid are no turns.
		{pts(0, 0, far+1, 0, 4, 0, 0, 4), nil},
		{pts(-far, -far, far, -far, far, far), pts(-far, -far, far, -far, far, far)},
	} {
		given := slices.Clone(q.p)
		got := Simplify(api.Poly{Pts: q.p})
		if !slices.Equal(got.Pts, q.want) || !slices.Equal(q.p, given) {
			t.Errorf("Simplify(%v) = %v; want %v", q.p, got.Pts, q.want)
		}
	}
}

// P16.4, P16.6.
func TestSimplifyAnyPolygon(t *testing.T) {
	random := rand.New(rand.NewSource(22))
	removed := 0
	for range 4000 {
		for _, p := range randomPolys(random, 1, 12, 2+random.Intn(4)) {
			got := Simplify(p)
			if want := simplify(p.Pts); !slices.Equal(got.Pts, want) {
				t.Errorf("Simplify(%v) = %v; want %v", p.Pts, got.Pts, want)
			}
			if planar.Area2(got.Pts) != planar.Area2(p.Pts) {
				t.Errorf("Simplify(%v) = %v has another area", p.Pts, got.Pts)
			}
			if again := Simplify(got); !slices.Equal(again.Pts, got.Pts) {
				t.Errorf("Simplify(%v) = %v", got.Pts, again.Pts)
			}
			if len(got.Pts) > 0 && len(got.Pts) < len(p.Pts) {
				removed++
			}
		}
	}
	if removed < 300 {
		t.Errorf("only %d polygons became simpler", removed)
	}
}

// P16.4: so many vertices that no search may begin anew for each one.
func TestSimplifyLongPolygon(t *testing.T) {
	const n = 200000
	var p api.Poly
	for i := range n {
		p.Pts = append(p.Pts, api.Pt{X: i})
	}
	for i := range n {
		p.Pts = append(p.Pts, api.Pt{X: n - i, Y: 1 + i%2})
	}
	if got := Simplify(p); len(got.Pts) != n+2 || got.Pts[0] != (api.Pt{}) || got.Pts[1] != (api.Pt{X: n - 1}) || got.Pts[2] != (api.Pt{X: n, Y: 1}) {
		t.Errorf("Simplify: %d points, %v", len(got.Pts), got.Pts[:3])
	}
}

// P16.7.
func TestNest(t *testing.T) {
	crowd := polys(pts(1, 1))
	for range 63 {
		crowd = append(crowd, api.Poly{Pts: square(0, 0, 5)})
	}
	depths := make([]int, 64)
	depths[0] = 63
	long := make([]api.Pt, 1024)
	for _, q := range []struct {
		l    []api.Poly
		want []int
		e    api.Errno
	}{
		{l: polys(square(0, 0, 9), square(2, 2, 2)), want: []int{0, 1}},
		{l: polys(square(0, 0, 9), square(0, 2, 2)), want: []int{0, 0}},
		{l: nil},
		{l: polys(nil, nil), want: []int{0, 0}},
		{l: polys(square(2, 2, 2), nil, square(0, 0, 9), square(1, 1, 5)), want: []int{2, 0, 0, 1}},
		{l: polys(square(0, 0, 9), square(0, 0, 9)), want: []int{0, 0}},
		{l: polys(square(0, 0, 9), pts(3, 3), pts(0, 0), pts(9, 5), pts(12, 5), pts(-1, 9), pts(5, 9), pts(-3, 0)), want: []int{0, 1, 0, 0, 0, 0, 0, 0}},
		// Inside of a polygon that passes twice around the point there is none.
		{l: polys(append(square(0, 0, 9), square(0, 0, 9)...), pts(3, 3)), want: []int{0, 0}},
		{l: polys(pts(0, 0, 9, 0, 0, 9), pts(5, 3), pts(5, 4), pts(5, 5)), want: []int{0, 1, 0, 0}},
		{l: polys(pts(0, 0, 4, 8, 8, 0, 4, -8), pts(2, 0), pts(4, 0)), want: []int{0, 1, 1}},
		{l: polys(pts(9, 5), pts(5, 9, 5, 3, 20, 3), pts(4, 2, 10, 2, 4, 10)), want: []int{1, 1, 0}},
		{l: crowd, want: depths},
		{l: append(crowd, api.Poly{}), e: api.ErrLimit},
		{l: polys(long), want: []int{0}},
		{l: polys(long, pts(far+1, 0)), e: api.ErrLimit},
		{l: polys(pts(0, 0), pts(0, far+1)), e: api.ErrRange},
		{l: polys(pts(math.MinInt, 0)), e: api.ErrRange},
		{l: polys(square(-far, -far, 2*far), pts(1, 1)), want: []int{0, 1}},
	} {
		got, e := Nest(q.l)
		if !slices.Equal(got, q.want) || e != q.e {
			t.Errorf("Nest(%v) = %v, %d; want %v, %d", q.l, got, e, q.want, q.e)
		}
	}
}

// nest counts the polygons around the least vertex of each one, edge by edge.
func nest(l []api.Poly) []int {
	depths := make([]int, len(l))
	for i, p := range l {
		if len(p.Pts) == 0 {
			continue
		}
		at := p.Pts[0]
		for _, q := range p.Pts {
			if q.X < at.X || q.X == at.X && q.Y < at.Y {
				at = q
			}
		}
		for k, other := range l {
			crossings, on := 0, false
			for _, s := range Segs([]api.Poly{other}) {
				on = on || planar.On(at, s)
				if (s.A.Y <= at.Y) != (s.B.Y <= at.Y) {
					// The ray is crossed to the right of the point if it is on the left of the upward direction.
					if turn := planar.Turn(s.A, s.B, at); turn > 0 && s.A.Y < s.B.Y || turn < 0 && s.A.Y > s.B.Y {
						crossings++
					}
				}
			}
			if k != i && !on && crossings%2 == 1 {
				depths[i]++
			}
		}
	}
	return depths
}

// P16.7, P16.8.
func TestNestAnyPolygons(t *testing.T) {
	random := rand.New(rand.NewSource(23))
	nested := 0
	for range 1500 {
		l := randomPolys(random, 6, 6, 4+random.Intn(8))
		got, e := Nest(l)
		if want := nest(l); !slices.Equal(got, want) || e != api.OK {
			t.Errorf("Nest(%v) = %v, %d; want %v", l, got, e, want)
		}
		var changed []api.Poly
		var expected []int
		dx, dy := random.Intn(2*far-100)-far+50, random.Intn(2*far-100)-far+50
		for _, i := range random.Perm(len(l)) {
			var p api.Poly
			for k := range l[i].Pts {
				at := l[i].Pts[(k+2)%len(l[i].Pts)]
				p.Pts = append(p.Pts, api.Pt{X: at.X + dx, Y: at.Y + dy})
			}
			if random.Intn(2) == 0 {
				slices.Reverse(p.Pts)
			}
			changed, expected = append(changed, p), append(expected, got[i])
			nested += got[i]
		}
		if got, e := Nest(changed); !slices.Equal(got, expected) || e != api.OK {
			t.Errorf("Nest(%v) = %v, %d; want %v", changed, got, e, expected)
		}
	}
	if nested < 300 {
		t.Errorf("only %d polygons are nested", nested)
	}
}
