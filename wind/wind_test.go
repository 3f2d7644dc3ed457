package wind

import (
	"math"
	"math/rand"
	"slices"
	"testing"

	"additive/api"
	"additive/planar"
)

const far = 1 << 24 // the greatest coordinate of a valid point

// poly returns a polygon whose points are given in pairs of coordinates.
func poly(coordinates ...int) api.Poly {
	p := api.Poly{}
	for i := 0; i < len(coordinates); i += 2 {
		p.Pts = append(p.Pts, api.Pt{X: coordinates[i], Y: coordinates[i+1]})
	}
	return p
}

func reversed(p api.Poly) api.Poly {
	l := slices.Clone(p.Pts)
	slices.Reverse(l)
	return api.Poly{Pts: l}
}

// P17.1, P17.2.
func TestWinding(t *testing.T) {
	square := poly(0, 0, 4, 0, 4, 4, 0, 4)
	triangle := poly(0, 0, 100, 0, 0, 100)
	for _, q := range []struct {
		l    []api.Poly
		at   api.Pt
		want int
	}{
		{nil, api.Pt{}, 0},
		{[]api.Poly{{}, poly(1, 1), poly(0, 0, 5, 5)}, api.Pt{X: 1, Y: 1}, 0},
		{[]api.Poly{square}, api.Pt{X: 1, Y: 1}, 1},
		{[]api.Poly{square}, api.Pt{X: 5, Y: 1}, 0},
		{[]api.Poly{square}, api.Pt{X: -1, Y: 1}, 0},
		{[]api.Poly{square}, api.Pt{X: 1, Y: 5}, 0},
		{[]api.Poly{square}, api.Pt{X: 1, Y: -1}, 0},
		{[]api.Poly{square}, api.Pt{}, 1},
		{[]api.Poly{square}, api.Pt{X: 4, Y: 4}, 0},
		{[]api.Poly{square}, api.Pt{X: 4}, 0},
		{[]api.Poly{square}, api.Pt{Y: 4}, 0},
		{[]api.Poly{square}, api.Pt{X: 2}, 1},
		{[]api.Poly{square}, api.Pt{Y: 2}, 1},
		{[]api.Poly{square, square}, api.Pt{X: 1, Y: 1}, 2},
		{[]api.Poly{square, reversed(square)}, api.Pt{X: 1, Y: 1}, 0},
		{[]api.Poly{reversed(square)}, api.Pt{X: 1, Y: 1}, -1},
		{[]api.Poly{reversed(square)}, api.Pt{}, -1},
		{[]api.Poly{triangle}, api.Pt{X: 50, Y: 50}, 0},
		{[]api.Poly{triangle}, api.Pt{X: 49, Y: 50}, 1},
		{[]api.Poly{square}, api.Pt{X: 1, Y: far + 1}, 0},
		{[]api.Poly{poly(-far, -far, far, -far, far, far, -far, far)}, api.Pt{X: -far, Y: -far}, 1},
		{[]api.Poly{poly(-far, -far, far, -far, far, far, -far, far)}, api.Pt{X: -far - 1, Y: 0}, 0},
		// Edges with an end that is not valid do not count: here the right side is missing.
		{[]api.Poly{poly(0, 0, far+1, 0, far+1, 9, 0, 9)}, api.Pt{X: 1, Y: 1}, 0},
		{[]api.Poly{poly(9, 0, 9, 9, 0, math.MaxInt)}, api.Pt{X: 1, Y: 1}, 1},
		{[]api.Poly{poly(9, 0, 9, 9, 0, math.MinInt)}, api.Pt{X: 1, Y: 1}, 1},
		{[]api.Poly{square}, api.Pt{X: math.MinInt, Y: 1}, 0},
		{[]api.Poly{square}, api.Pt{X: 1, Y: math.MaxInt}, 0},
	} {
		if got := Winding(q.l, q.at); got != q.want {
			t.Errorf("Winding(%v, %v) = %d; want %d", q.l, q.at, got, q.want)
		}
		if got := Inside(q.l, q.at); got != (q.want > 0) {
			t.Errorf("Inside(%v, %v) = %v", q.l, q.at, got)
		}
	}
}

// winding counts the edges that pass a point on its right side, by the definition.
func winding(l []api.Poly, p api.Pt) int {
	sum := 0
	for _, q := range l {
		for i := range q.Pts {
			a, b := q.Pts[i], q.Pts[(i+1)%len(q.Pts)]
			if !planar.Valid(a) || !planar.Valid(b) {
				continue
			}
			cross := (b.X-a.X)*(p.Y-a.Y) - (b.Y-a.Y)*(p.X-a.X)
			if a.Y <= p.Y && p.Y < b.Y && cross > 0 {
				sum++
			}
			if b.Y <= p.Y && p.Y < a.Y && cross < 0 {
				sum--
			}
		}
	}
	return sum
}

func randomPolys(random *rand.Rand) []api.Poly {
	var l []api.Poly
	for range random.Intn(4) {
		p := api.Poly{}
		for range random.Intn(7) {
			p.Pts = append(p.Pts, api.Pt{X: random.Intn(9) - 4, Y: random.Intn(9) - 4})
			if random.Intn(40) == 0 {
				p.Pts[len(p.Pts)-1].X = far + 1
			}
		}
		l = append(l, p)
	}
	return l
}

// P17.1, P17.2, and the consequences.
func TestAnyWinding(t *testing.T) {
	random := rand.New(rand.NewSource(17))
	several := 0
	for range 9000 {
		l, m := randomPolys(random), randomPolys(random)
		at := api.Pt{X: random.Intn(11) - 5, Y: random.Intn(11) - 5}
		got := Winding(l, at)
		if got != winding(l, at) {
			t.Errorf("Winding(%v, %v) = %d; want %d", l, at, got, winding(l, at))
		}
		if got > 1 || got < -1 {
			several++
		}
		if both := Winding(slices.Concat(l, m), at); both != got+Winding(m, at) {
			t.Errorf("Winding(%v and %v, %v) = %d", l, m, at, both)
		}
		var turned, back []api.Poly
		for _, p := range l {
			turned = append(turned, api.Poly{Pts: slices.Concat(p.Pts[len(p.Pts)/2:], p.Pts[:len(p.Pts)/2])})
			back = append(back, reversed(p))
		}
		if Winding(turned, at) != got || Winding(back, at) != -got {
			t.Errorf("Winding(%v, %v) = %d, turned %d, reversed %d", l, at, got, Winding(turned, at), Winding(back, at))
		}
	}
	if several < 20 {
		t.Errorf("only %d points are enclosed more than once", several)
	}
}

// P17.3.
func TestArea2(t *testing.T) {
	square := poly(0, 0, 4, 0, 4, 4, 0, 4)
	line := func(n int) api.Poly { return api.Poly{Pts: make([]api.Pt, n)} }
	for i, q := range []struct {
		l    []api.Poly
		want int
	}{
		{nil, 0},
		{[]api.Poly{{}}, 0},
		{[]api.Poly{square}, 32},
		{[]api.Poly{reversed(square)}, -32},
		{[]api.Poly{square, square, reversed(square), poly(0, 0, 1, 0, 0, 1)}, 33},
		{[]api.Poly{square, line(8188)}, 32},
		{[]api.Poly{square, line(8189)}, 0},
		{[]api.Poly{square, line(4000), line(4188)}, 32},
		{[]api.Poly{square, line(4000), line(4189)}, 0},
		{[]api.Poly{square, poly(0, 0, far+1, 0, 0, 9)}, 32}, // only the area of the second one is 0
		{[]api.Poly{poly(-far, -far, far, -far, far, far, -far, far)}, 8 * far * far},
	} {
		if got := Area2(q.l); got != q.want {
			t.Errorf("Area2 of list %d = %d; want %d", i, got, q.want)
		}
	}
}
