package raster

import (
	"math"
	"math/rand"
	"slices"
	"testing"

	"additive/api"
	"additive/region"
	"additive/runs"
	"additive/wind"
)

const (
	edge  = api.MaxCell
	coord = api.MaxCoord
)

// poly returns a polygon whose points are given in pairs of coordinates.
func poly(coordinates ...int) api.Poly {
	p := api.Poly{}
	for i := 0; i < len(coordinates); i += 2 {
		p.Pts = append(p.Pts, api.Pt{X: coordinates[i], Y: coordinates[i+1]})
	}
	return p
}

// rectangle returns the rectangle from (x, y) to (u, v), counterclockwise.
func rectangle(x, y, u, v int) api.Poly {
	return poly(x, y, u, y, u, v, x, v)
}

func reversed(p api.Poly) api.Poly {
	l := slices.Clone(p.Pts)
	slices.Reverse(l)
	return api.Poly{Pts: l}
}

// P19.1.
func TestCenter(t *testing.T) {
	for _, q := range []struct {
		c     api.Cell
		pitch int
		want  api.Pt
	}{
		{api.Cell{X: 0, Y: -1}, 100, api.Pt{X: 50, Y: -50}},
		{api.Cell{X: 3, Y: 2}, 33, api.Pt{X: 115, Y: 82}},
		{api.Cell{X: -edge, Y: edge - 1}, 1024, api.Pt{X: -edge*1024 + 512, Y: edge*1024 - 512}},
		{api.Cell{X: 1, Y: 1}, 32, api.Pt{X: 48, Y: 48}},
		{api.Cell{X: 1, Y: 1}, 31, api.Pt{}},
		{api.Cell{X: 1, Y: 1}, 1025, api.Pt{}},
		{api.Cell{X: 1, Y: 1}, -100, api.Pt{}},
		{api.Cell{X: edge, Y: 1}, 100, api.Pt{}},
		{api.Cell{X: 1, Y: edge}, 100, api.Pt{}},
		{api.Cell{X: -edge - 1, Y: 1}, 100, api.Pt{}},
		{api.Cell{X: 1, Y: math.MinInt}, 100, api.Pt{}},
		{api.Cell{X: math.MaxInt, Y: 1}, math.MaxInt, api.Pt{}},
	} {
		if got := Center(q.c, q.pitch); got != q.want {
			t.Errorf("Center(%v, %d) = %v; want %v", q.c, q.pitch, got, q.want)
		}
	}
}

// cellsOf returns a region, given by its rectangle of cells a <= x < c and b <= y < d.
func cellsOf(a, b, c, d int) api.Region {
	var l []api.Cell
	for y := b; y < d; y++ {
		for x := a; x < c; x++ {
			l = append(l, api.Cell{X: x, Y: y})
		}
	}
	r, _ := region.Of(l)
	return r
}

// P19.2, P19.3, P19.5.
func TestRaster(t *testing.T) {
	for _, q := range []struct {
		l     []api.Poly
		pitch int
		want  api.Region
	}{
		{nil, 100, api.Region{}},
		{[]api.Poly{{}, poly(50, 50), poly(0, 0, 300, 300)}, 100, api.Region{}},
		{[]api.Poly{poly(0, 0, 100, 0, 0, 100)}, 100, api.Region{}},
		{[]api.Poly{poly(0, 0, 102, 0, 0, 102)}, 100, cellsOf(0, 0, 1, 1)},
		{[]api.Poly{rectangle(0, 0, 200, 100)}, 100, cellsOf(0, 0, 2, 1)},
		{[]api.Poly{reversed(rectangle(0, 0, 200, 100))}, 100, api.Region{}},
		// A center on the left or the lower side is inside, one on the right or the upper side is not.
		{[]api.Poly{rectangle(50, 50, 150, 150)}, 100, cellsOf(0, 0, 1, 1)},
		{[]api.Poly{rectangle(-149, -149, 51, 51)}, 100, cellsOf(-1, -1, 1, 1)},
		{[]api.Poly{rectangle(51, 51, 149, 149)}, 100, api.Region{}},
		{[]api.Poly{rectangle(0, 0, 500, 500), reversed(rectangle(100, 100, 400, 400))}, 100, region.Subtract(cellsOf(0, 0, 5, 5), cellsOf(1, 1, 4, 4))},
		{[]api.Poly{rectangle(0, 0, 500, 500), rectangle(100, 100, 400, 400)}, 100, cellsOf(0, 0, 5, 5)},
		{[]api.Poly{rectangle(0, 0, 300, 300), rectangle(200, 200, 500, 500), reversed(rectangle(200, 200, 300, 300))}, 100, region.Union(cellsOf(0, 0, 3, 3), cellsOf(2, 2, 5, 5))},
		{[]api.Poly{rectangle(-coord, -coord, coord, coord)}, 1024, cellsOf(-64, -64, 64, 64)},
		{[]api.Poly{rectangle(coord-32, -coord, coord, 32-coord)}, 32, cellsOf(2047, -2048, 2048, -2047)},
	} {
		given := len(q.l)
		got, e := Raster(q.l, q.pitch)
		if !region.Same(got, q.want) || e != api.OK || len(q.l) != given {
			t.Errorf("Raster(%v, %d) = %v, %d; want %v", q.l, q.pitch, got, e, q.want)
		}
	}
}

// P19.2, P19.3: the errors, in their order.
func TestErrors(t *testing.T) {
	many := []api.Poly{{Pts: make([]api.Pt, 10000)}, {Pts: make([]api.Pt, 6384)}}
	for _, q := range []struct {
		l        []api.Poly
		pitch, y int
		e        api.Errno
	}{
		{nil, 32, 0, api.OK}, {nil, 1024, edge - 1, api.OK}, {nil, 100, -edge, api.OK},
		{nil, 31, 0, api.ErrArg}, {nil, 30, 0, api.ErrArg}, {nil, 33, 0, api.ErrArg}, {nil, 1026, 0, api.ErrArg}, {nil, 0, 0, api.ErrArg}, {nil, -100, 0, api.ErrArg},
		{nil, math.MaxInt, 0, api.ErrArg}, {nil, math.MinInt, 0, api.ErrArg},
		{nil, 100, edge, api.ErrArg}, {nil, 100, -edge - 1, api.ErrArg}, {nil, 100, math.MinInt, api.ErrArg},
		{many, 100, 0, api.OK},
		{append(slices.Clone(many), poly(1, 1)), 100, 0, api.ErrLimit},
		{append(slices.Clone(many), poly(math.MaxInt, 1)), 100, 0, api.ErrLimit},
		{append(slices.Clone(many), poly(math.MaxInt, 1)), 99, 0, api.ErrArg},
		{[]api.Poly{poly(0, 0, coord, -coord)}, 100, 0, api.OK},
		{[]api.Poly{poly(coord+1, 0)}, 100, 0, api.ErrRange}, {[]api.Poly{poly(0, coord+1)}, 100, 0, api.ErrRange},
		{[]api.Poly{poly(0, 0), poly(0, 0, -coord-1, 0)}, 100, 0, api.ErrRange}, {[]api.Poly{poly(0, math.MinInt)}, 100, 0, api.ErrRange},
		{[]api.Poly{poly(coord+1, 0)}, 100, edge, api.ErrArg},
	} {
		l, e := Row(q.l, q.pitch, q.y)
		if e != q.e || len(l) != 0 {
			t.Errorf("Row(.., %d, %d) = %v, %d; want error %d", q.pitch, q.y, l, e, q.e)
		}
		if q.y < -edge || q.y >= edge {
			continue
		}
		if r, e := Raster(q.l, q.pitch); e != q.e || len(r.Rows) != 0 {
			t.Errorf("Raster(.., %d) = %v, %d; want error %d", q.pitch, r, e, q.e)
		}
	}
}

// randomPolys returns polygons around the origin with coordinates of at most a size, some of them multiples of half a pitch.
func randomPolys(random *rand.Rand, pitch, size int) []api.Poly {
	var l []api.Poly
	for range 1 + random.Intn(3) {
		p := api.Poly{}
		for range random.Intn(8) {
			at := api.Pt{X: random.Intn(2*size+1) - size, Y: random.Intn(2*size+1) - size}
			if random.Intn(2) == 0 {
				at.X -= at.X % (pitch / 2)
			}
			if random.Intn(2) == 0 {
				at.Y -= at.Y % (pitch / 2)
			}
			p.Pts = append(p.Pts, at)
		}
		l = append(l, p)
	}
	return l
}

// P19.2, P19.3, P19.4, P19.5: all cells around polygons of any kind.
func TestAnyPolygons(t *testing.T) {
	random := rand.New(rand.NewSource(19))
	inside := 0
	for range 600 {
		pitch := []int{32, 100, 1024}[random.Intn(3)]
		l := randomPolys(random, pitch, 4*pitch)
		r, e := Raster(l, pitch)
		if e != api.OK || !region.Valid(r) {
			t.Fatalf("Raster(%v, %d) = %v, %d", l, pitch, r, e)
		}
		var cells []api.Cell
		for y := -6; y <= 6; y++ {
			var row []api.Run
			for x := -6; x <= 6; x++ {
				c := api.Cell{X: x, Y: y}
				if wind.Inside(l, Center(c, pitch)) {
					cells, row = append(cells, c), append(row, api.Run{From: x, To: x + 1})
				}
			}
			want, _ := runs.Norm(row)
			if got, e := Row(l, pitch, y); !slices.Equal(got, want) || e != api.OK {
				t.Errorf("Row(%v, %d, %d) = %v, %d; want %v", l, pitch, y, got, e, want)
			}
		}
		if want, _ := region.Of(cells); !region.Same(r, want) {
			t.Errorf("Raster(%v, %d) = %v; want %v", l, pitch, r, want)
		}
		inside += len(cells)
		a, b := random.Intn(20)-10, random.Intn(20)-10
		want, _ := region.Shift(r, a, b)
		if got, e := Raster(moved(random, l, a*pitch, b*pitch), pitch); !region.Same(got, want) || e != api.OK {
			t.Errorf("Raster(%v, %d), moved, = %v, %d", l, pitch, got, e)
		}
	}
	if inside < 1500 {
		t.Errorf("only %d cells are inside", inside)
	}
}

// moved returns the polygons in another order, each moved and begun with another point.
func moved(random *rand.Rand, l []api.Poly, dx, dy int) []api.Poly {
	var m []api.Poly
	for _, i := range random.Perm(len(l)) {
		var p api.Poly
		for k := range l[i].Pts {
			at := l[i].Pts[(k+1)%len(l[i].Pts)]
			p.Pts = append(p.Pts, api.Pt{X: at.X + dx, Y: at.Y + dy})
		}
		m = append(m, p)
	}
	return m
}

// P19.3: as many points as are allowed, in the widest range.
func TestLargeRaster(t *testing.T) {
	var p api.Poly
	for i := range maxPoints / 2 {
		p.Pts = append(p.Pts, api.Pt{X: 8*i - coord, Y: (2*(i%2) - 1) * coord})
	}
	for i := range maxPoints / 2 {
		p.Pts = append(p.Pts, api.Pt{X: coord - 8*i, Y: coord})
	}
	r, e := Raster([]api.Poly{p}, 32)
	if e != api.OK || !region.Valid(r) {
		t.Fatalf("Raster: error %d", e)
	}
	for _, c := range []api.Cell{{X: -2048, Y: -2048}, {X: 0, Y: 0}, {X: 5, Y: -7}, {X: 2047, Y: 2047}, {X: -2048, Y: 2047}, {X: 1234, Y: -987}} {
		if region.Contains(r, c) != wind.Inside([]api.Poly{p}, Center(c, 32)) {
			t.Errorf("the cell %v is wrong", c)
		}
	}
}
