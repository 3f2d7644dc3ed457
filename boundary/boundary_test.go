package boundary

import (
	"math"
	"math/rand"
	"slices"
	"testing"

	"additive/api"
	"additive/planar"
	"additive/region"
	"additive/wind"
)

const edge = api.MaxCell

// read returns the region of a picture whose last line begins at (x, y).
func read(x, y int, lines ...string) api.Region {
	text := ""
	for _, line := range lines {
		text += line + "\n"
	}
	r, e := region.Read(text, api.Cell{X: x, Y: y})
	if e != api.OK {
		panic("wrong picture")
	}
	return r
}

// poly returns a polygon whose points are given in pairs of coordinates.
func poly(coordinates ...int) api.Poly {
	p := api.Poly{}
	for i := 0; i < len(coordinates); i += 2 {
		p.Pts = append(p.Pts, api.Pt{X: coordinates[i], Y: coordinates[i+1]})
	}
	return p
}

func invalid() api.Region {
	return api.Region{Rows: []api.Row{{Y: 0, Runs: []api.Run{{From: 0, To: 2}}}, {Y: 0, Runs: []api.Run{{From: 4, To: 5}}}}}
}

func same(a, b []api.Poly) bool {
	return slices.EqualFunc(a, b, func(p, q api.Poly) bool { return slices.Equal(p.Pts, q.Pts) })
}

// P22.1, P22.3.
func TestTrace(t *testing.T) {
	for _, q := range []struct {
		r      api.Region
		want   []api.Poly
		length int
	}{
		{api.Region{}, nil, 0},
		{invalid(), nil, 0},
		{read(2, 1, "#"), []api.Poly{poly(2, 1, 3, 1, 3, 2, 2, 2)}, 4},
		{read(0, 0, ".#", "#."), []api.Poly{poly(0, 0, 1, 0, 1, 1, 0, 1), poly(1, 1, 2, 1, 2, 2, 1, 2)}, 8},
		{read(0, 0, "#.", ".#"), []api.Poly{poly(1, 0, 2, 0, 2, 1, 1, 1), poly(0, 1, 1, 1, 1, 2, 0, 2)}, 8},
		{read(0, 0, "###", "#.#", "###"), []api.Poly{poly(0, 0, 3, 0, 3, 3, 0, 3), poly(1, 1, 1, 2, 2, 2, 2, 1)}, 16},
		{read(-1, -2, "###"), []api.Poly{poly(-1, -2, 2, -2, 2, -1, -1, -1)}, 8},
		{read(0, 0, "#..", "##."), []api.Poly{poly(0, 0, 2, 0, 2, 1, 1, 1, 1, 2, 0, 2)}, 8},
		// One loop that passes a corner twice: two holes that touch, and a notch that touches a hole.
		{read(0, 0, "####", "##.#", "#.##", "####"), []api.Poly{poly(0, 0, 4, 0, 4, 4, 0, 4), poly(1, 1, 1, 2, 2, 2, 2, 3, 3, 3, 3, 2, 2, 2, 2, 1)}, 24},
		{read(0, 0, "##.", "#.#", "###"), []api.Poly{poly(0, 0, 3, 0, 3, 2, 2, 2, 2, 1, 1, 1, 1, 2, 2, 2, 2, 3, 0, 3)}, 16},
		{read(edge-1, edge-1, "#"), []api.Poly{poly(edge-1, edge-1, edge, edge-1, edge, edge, edge-1, edge)}, 4},
		{read(-edge, -edge, "#"), []api.Poly{poly(-edge, -edge, 1-edge, -edge, 1-edge, 1-edge, -edge, 1-edge)}, 4},
	} {
		if got := Trace(q.r); !same(got, q.want) {
			t.Errorf("Trace of\n%sis %v; want %v", region.Picture(q.r), got, q.want)
		}
		if got := Length(q.r); got != q.length {
			t.Errorf("Length of\n%sis %d; want %d", region.Picture(q.r), got, q.length)
		}
	}
}

// trace follows the cracks from cell to cell, by the definition.
func trace(inside map[api.Cell]bool) ([]api.Poly, int) {
	var l []api.Seg
	for c := range inside {
		x, y := c.X, c.Y
		if !inside[api.Cell{X: x, Y: y - 1}] {
			l = append(l, api.Seg{A: api.Pt{X: x, Y: y}, B: api.Pt{X: x + 1, Y: y}})
		}
		if !inside[api.Cell{X: x + 1, Y: y}] {
			l = append(l, api.Seg{A: api.Pt{X: x + 1, Y: y}, B: api.Pt{X: x + 1, Y: y + 1}})
		}
		if !inside[api.Cell{X: x, Y: y + 1}] {
			l = append(l, api.Seg{A: api.Pt{X: x + 1, Y: y + 1}, B: api.Pt{X: x, Y: y + 1}})
		}
		if !inside[api.Cell{X: x - 1, Y: y}] {
			l = append(l, api.Seg{A: api.Pt{X: x, Y: y + 1}, B: api.Pt{X: x, Y: y}})
		}
	}
	done := map[api.Seg]bool{}
	var loops []api.Poly
	for _, s := range l {
		var corners []api.Pt
		for at := s; !done[at]; {
			done[at] = true
			next := follow(l, at)
			if planar.Turn(at.A, at.B, next.B) != 0 {
				corners = append(corners, at.B)
			}
			at = next
		}
		if len(corners) > 0 {
			least := slices.Index(corners, slices.MinFunc(corners, compare))
			loops = append(loops, api.Poly{Pts: slices.Concat(corners[least:], corners[:least])})
		}
	}
	slices.SortFunc(loops, func(p, q api.Poly) int { return compare(p.Pts[0], q.Pts[0]) })
	return loops, len(l)
}

// follow returns the crack after a crack: the one that turns left, if there are two.
func follow(l []api.Seg, at api.Seg) api.Seg {
	var found []api.Seg
	for _, s := range l {
		if s.A == at.B {
			found = append(found, s)
		}
	}
	if len(found) == 2 && planar.Turn(at.A, at.B, found[0].B) < 0 {
		return found[1]
	}
	return found[0]
}

func randomRegion(random *rand.Rand) (api.Region, map[api.Cell]bool) {
	size := 1 + random.Intn(9)
	at := api.Cell{X: []int{-5, -edge, edge - size}[random.Intn(3)], Y: []int{-5, -edge, edge - size}[random.Intn(3)]}
	inside := map[api.Cell]bool{}
	l := []api.Cell{}
	density := 1 + random.Intn(9)
	for x := range size {
		for y := range size {
			if c := (api.Cell{X: at.X + x, Y: at.Y + y}); random.Intn(10) < density {
				inside[c] = true
				l = append(l, c)
			}
		}
	}
	r, _ := region.Of(l)
	return r, inside
}

// P22.1, P22.3, P22.4, P22.5, P22.6.
func TestTraceAnyRegion(t *testing.T) {
	random := rand.New(rand.NewSource(22))
	for range 500 {
		r, inside := randomRegion(random)
		picture := region.Picture(r)
		want, length := trace(inside)
		got := Trace(r)
		if !same(got, want) || Length(r) != length {
			t.Errorf("Trace of\n%sis %v; want %v; Length is %d", picture, got, want, Length(r))
		}
		if back, e := Back(got); !region.Same(back, r) || e != api.OK {
			t.Errorf("Back of the boundary of\n%sis %v, %d", picture, back, e)
		}
		if wind.Area2(got) != 2*len(inside) || region.Picture(r) != picture {
			t.Errorf("the area of the boundary of\n%sis %d", picture, wind.Area2(got))
		}
		sum := 0
		for _, p := range got {
			for i, a := range p.Pts {
				b, c := p.Pts[(i+1)%len(p.Pts)], p.Pts[(i+2)%len(p.Pts)]
				if planar.Turn(a, b, c) == 0 || len(p.Pts) < 4 {
					t.Errorf("Trace of\n%shas the polygon %v", picture, p)
				}
				sum += max(a.X-b.X, b.X-a.X, a.Y-b.Y, b.Y-a.Y)
			}
		}
		if sum != length {
			t.Errorf("the lengths of the boundary of\n%sadd up to %d", picture, sum)
		}
		low, _, _ := region.Box(r)
		moved, _ := region.Shift(r, 3-low.X, -7-low.Y)
		for i, p := range Trace(moved) {
			for k, at := range p.Pts {
				if at != (api.Pt{X: got[i].Pts[k].X + 3 - low.X, Y: got[i].Pts[k].Y - 7 - low.Y}) {
					t.Errorf("the boundary of\n%sdoes not move with it: %v", picture, p)
				}
			}
		}
	}
}

// P22.2.
func TestBack(t *testing.T) {
	square := poly(0, 0, 3, 0, 3, 3, 0, 3)
	for _, q := range []struct {
		l    []api.Poly
		want api.Region
		e    api.Errno
	}{
		{l: nil},
		{l: []api.Poly{{}, {}}},
		{l: []api.Poly{square}, want: read(0, 0, "###", "###", "###")},
		{l: []api.Poly{square, square}, want: read(0, 0, "###", "###", "###")},
		{l: []api.Poly{poly(0, 3, 3, 3, 3, 0, 0, 0)}},
		{l: []api.Poly{square, poly(0, 3, 3, 3, 3, 0, 0, 0)}},
		{l: []api.Poly{square, poly(1, 1, 1, 2, 2, 2, 2, 1)}, want: read(0, 0, "###", "#.#", "###")},
		{l: []api.Poly{square, square, poly(1, 1, 1, 2, 2, 2, 2, 1)}, want: read(0, 0, "###", "###", "###")},
		{l: []api.Poly{square, poly(3, 0, 5, 0, 5, 2, 3, 2)}, want: read(0, 0, "###..", "#####", "#####")},
		{l: []api.Poly{poly(0, 0, 5, 0)}},
		// Edges that go on in the same direction, or back.
		{l: []api.Poly{poly(0, 0, 1, 0, 3, 0, 3, 5, 3, 3, 0, 3, 0, 1)}, want: read(0, 0, "###", "###", "###")},
		{l: []api.Poly{poly(-edge, -edge, edge, -edge, edge, 1-edge, -edge, 1-edge)}, want: api.Region{Rows: []api.Row{{Y: -edge, Runs: []api.Run{{From: -edge, To: edge}}}}}},
		{l: []api.Poly{poly(edge-1, -edge, edge, -edge, edge, edge, edge-1, edge), poly(0, 0)}, e: api.ErrArg},
		{l: []api.Poly{square, poly(0, 0, 3, 0, 3, 3)}, e: api.ErrArg},
		{l: []api.Poly{poly(0, 0, 3, 0, 3, 0, 3, 3, 0, 3)}, e: api.ErrArg},
		{l: []api.Poly{poly(0, 0, 3, 0, 3, 3, 0, 3, 0, 0)}, e: api.ErrArg},
		{l: []api.Poly{poly(0, 0, edge+1, 0, edge+1, 3, 0, 3)}, e: api.ErrArg},
		{l: []api.Poly{poly(0, -edge-1, 3, -edge-1, 3, 3, 0, 3)}, e: api.ErrArg},
		{l: []api.Poly{poly(math.MinInt, 0, 3, 0, 3, 3, math.MinInt, 3)}, e: api.ErrArg},
		{l: []api.Poly{poly(0, 0, 3, 0, 3, math.MaxInt, 0, math.MaxInt)}, e: api.ErrArg},
	} {
		if got, e := Back(q.l); !region.Same(got, q.want) || e != q.e {
			t.Errorf("Back(%v) = %v, %d; want %v, %d", q.l, got, e, q.want, q.e)
		}
	}
}

// P22.2: polygons that overlap and cross themselves.
func TestBackOfAnyPolygons(t *testing.T) {
	random := rand.New(rand.NewSource(23))
	covered := 0
	for range 600 {
		var l []api.Poly
		for range 1 + random.Intn(3) {
			p := api.Poly{}
			n := 1 + random.Intn(4)
			x, y := make([]int, n), make([]int, n)
			for i := range n {
				x[i], y[i] = random.Intn(8)-4, random.Intn(8)-4
			}
			for i := range n {
				p.Pts = append(p.Pts, api.Pt{X: x[i], Y: y[i]}, api.Pt{X: x[(i+1)%n], Y: y[i]})
			}
			if rectilinear(p) {
				l = append(l, p)
			}
		}
		var cells []api.Cell
		for x := -6; x <= 6; x++ {
			for y := -6; y <= 6; y++ {
				if wind.Winding(l, api.Pt{X: x, Y: y}) > 0 {
					cells = append(cells, api.Cell{X: x, Y: y})
				}
			}
		}
		covered += len(cells)
		want, _ := region.Of(cells)
		if got, e := Back(l); !region.Same(got, want) || e != api.OK {
			t.Errorf("Back(%v) = %v, %d; want %v", l, got, e, want)
		}
	}
	if covered < 2000 {
		t.Errorf("only %d cells", covered)
	}
}
