package stack

import (
	"math"
	"math/rand"
	"slices"
	"testing"

	"additive/api"
	"additive/contour"
	"additive/mesh"
	"additive/raster"
	"additive/region"
	"additive/section"
	"additive/shapes"
)

// settings has only the fields that are used.
func settings(pitch, height int) api.Settings {
	return api.Settings{Pitch: pitch, Height: height}
}

func box(x, y, z, sx, sy, sz int) api.Mesh {
	m, e := shapes.Box(api.Vec{X: x, Y: y, Z: z}, api.Vec{X: sx, Y: sy, Z: sz})
	if e != api.OK {
		panic("no box")
	}
	return m
}

func pyramid(x, y, size, z, height int) api.Mesh {
	m, e := shapes.Pyramid([]api.Pt{{X: x, Y: y}, {X: x + size, Y: y}, {X: x + size, Y: y + size}, {X: x, Y: y + size}}, z, api.Vec{X: x, Y: y, Z: z + height})
	if e != api.OK {
		panic("no pyramid")
	}
	return m
}

// rectangle returns the cells from (x, y) to (u, v).
func rectangle(x, y, u, v int) api.Region {
	var r api.Region
	for ; y <= v; y++ {
		r.Rows = append(r.Rows, api.Row{Y: y, Runs: []api.Run{{From: x, To: u + 1}}})
	}
	return r
}

func equal(a, b []api.Region) bool {
	return slices.EqualFunc(a, b, region.Same)
}

// P26.1.
func TestHeights(t *testing.T) {
	for _, q := range []struct {
		top, height int
		want        []int
		e           api.Errno
	}{
		{40, 20, []int{10, 30}, api.OK}, {30, 20, []int{10}, api.OK}, {10, 20, nil, api.OK}, {11, 20, []int{10}, api.OK}, {31, 20, []int{10, 30}, api.OK},
		{0, 4, nil, api.OK}, {-7, 4, nil, api.OK}, {math.MinInt, 4, nil, api.OK}, {3, 4, []int{2}, api.OK}, {1024, 1024, []int{512}, api.OK},
		{1027, 4, nil, api.ErrLimit}, {math.MaxInt, 1024, nil, api.ErrLimit}, {math.MaxInt, 4, nil, api.ErrLimit},
		{40, 2, nil, api.ErrArg}, {40, 21, nil, api.ErrArg}, {40, 1026, nil, api.ErrArg}, {40, 0, nil, api.ErrArg}, {40, -20, nil, api.ErrArg},
		{math.MaxInt, math.MaxInt, nil, api.ErrArg}, {math.MaxInt, math.MinInt, nil, api.ErrArg},
	} {
		if got, e := Heights(q.top, q.height); !slices.Equal(got, q.want) || e != q.e {
			t.Errorf("Heights(%d, %d) = %v, %d; want %v, %d", q.top, q.height, got, e, q.want, q.e)
		}
	}
	for _, top := range []int{1023, 1026} {
		got, e := Heights(top, 4)
		if len(got) != api.MaxLayers || e != api.OK {
			t.Fatalf("Heights(%d, 4): %d heights, error %d", top, len(got), e)
		}
		for i, z := range got {
			if z != 4*i+2 {
				t.Errorf("Heights(%d, 4): number %d is %d", top, i, z)
			}
		}
	}
}

// P26.2.
func TestSlice(t *testing.T) {
	b := box(40, 80, 0, 120, 40, 9)
	open := api.Mesh{Verts: []api.Vec{{}, {X: 100}, {Z: 100}}, Tris: []api.Tri{{A: 0, B: 1, C: 2}}}
	wide := api.Mesh{Verts: []api.Vec{{}, {X: 1}, {Z: 5}, {X: 1, Z: 5}}}
	for range api.MaxTris {
		wide.Tris = append(wide.Tris, api.Tri{A: 0, B: 1, C: 2})
	}
	for _, q := range []struct {
		m        api.Mesh
		z, pitch int
		want     api.Region
		e        api.Errno
	}{
		{m: b, z: 0, pitch: 40, want: rectangle(1, 2, 3, 2)},
		{m: b, z: 8, pitch: 40, want: rectangle(1, 2, 3, 2)},
		{m: b, z: 9, pitch: 40},
		{m: b, z: -1, pitch: 40},
		{m: mesh.Reverse(b), z: 0, pitch: 40},
		{m: api.Mesh{}, z: 0, pitch: 40},
		{m: b, z: 0, pitch: 41, e: api.ErrArg}, {m: b, z: 0, pitch: 30, e: api.ErrArg}, {m: b, z: 0, pitch: 1026, e: api.ErrArg}, {m: b, z: 0, pitch: -40, e: api.ErrArg},
		{m: open, z: math.MaxInt, pitch: 41, e: api.ErrArg},
		{m: open, z: 0, pitch: 40, e: api.ErrOpen},
		{m: wide, z: 0, pitch: 40, e: api.ErrOpen},
		{m: open, z: api.MaxCoord + 1, pitch: 40, e: api.ErrRange},
		{m: api.Mesh{Verts: make([]api.Vec, api.MaxVerts+1)}, z: math.MaxInt, pitch: 40, e: api.ErrLimit},
		{m: api.Mesh{Tris: []api.Tri{{}}}, z: math.MaxInt, pitch: 40, e: api.ErrArg},
	} {
		if got, e := Slice(q.m, q.z, q.pitch); !region.Same(got, q.want) || e != q.e {
			t.Errorf("Slice(.., %d, %d) = %v, %d; want %v, %d", q.z, q.pitch, got, e, q.want, q.e)
		}
	}
}

// P26.2: the steps one by one.
func TestSliceSteps(t *testing.T) {
	random := rand.New(rand.NewSource(26))
	for range 100 {
		m := pyramid(random.Intn(500)-250, random.Intn(500)-250, 100+random.Intn(900), random.Intn(20), 1+random.Intn(300))
		z, pitch := random.Intn(330)-10, 32+2*random.Intn(30)
		segments, _ := section.Cut(m, z)
		contours, _ := contour.Chain(segments)
		want, _ := raster.Raster(contours, pitch)
		if got, e := Slice(m, z, pitch); !region.Same(got, want) || e != api.OK {
			t.Errorf("Slice(%v, %d, %d) = %v, %d; want %v", m, z, pitch, got, e, want)
		}
	}
}

// P26.3, P26.5.
func TestSlices(t *testing.T) {
	two := box(0, 0, 0, 80, 40, 40)
	high := box(200, 0, 0, 40, 40, 61)
	for i, q := range []struct {
		parts []api.Mesh
		s     api.Settings
		want  []api.Region
	}{
		{nil, settings(40, 20), nil},
		{[]api.Mesh{{}}, settings(40, 20), nil},
		{[]api.Mesh{{Verts: []api.Vec{{Z: 55}}}}, settings(40, 20), []api.Region{{}, {}, {}}}, // a vertex that no triangle uses
		{[]api.Mesh{two}, settings(40, 20), []api.Region{rectangle(0, 0, 1, 0), rectangle(0, 0, 1, 0)}},
		{[]api.Mesh{two}, settings(40, 80), nil},
		{[]api.Mesh{two}, settings(40, 78), []api.Region{rectangle(0, 0, 1, 0)}},
		{[]api.Mesh{two, high}, settings(40, 20), []api.Region{region.Union(rectangle(0, 0, 1, 0), rectangle(5, 0, 5, 0)), region.Union(rectangle(0, 0, 1, 0), rectangle(5, 0, 5, 0)), rectangle(5, 0, 5, 0)}},
		{[]api.Mesh{high, {}, two, two}, settings(40, 20), []api.Region{region.Union(rectangle(0, 0, 1, 0), rectangle(5, 0, 5, 0)), region.Union(rectangle(0, 0, 1, 0), rectangle(5, 0, 5, 0)), rectangle(5, 0, 5, 0)}},
		// Nothing is at the bed, and something above it.
		{[]api.Mesh{box(-80, -40, 30, 160, 80, 20)}, settings(40, 20), []api.Region{{}, rectangle(-2, -1, 1, 0)}},
		{[]api.Mesh{box(0, 0, 0, 1, 1, 1022)}, settings(1024, 4), make([]api.Region, 255)},
	} {
		if got, e := Slices(q.parts, q.s); !equal(got, q.want) || e != api.OK {
			t.Errorf("list %d: Slices = %v, %d; want %v", i, got, e, q.want)
		}
	}
}

// P26.3: the errors, of the first part that has one.
func TestSlicesErrors(t *testing.T) {
	b := box(0, 0, 0, 80, 40, 40)
	open := api.Mesh{Verts: []api.Vec{{}, {X: 1}, {Y: 1}}, Tris: []api.Tri{{A: 0, B: 1, C: 2}}}
	twice := api.Mesh{Verts: b.Verts, Tris: slices.Concat(b.Tris, b.Tris)}
	below, tall := box(0, 0, -1, 80, 40, 40), box(0, 0, 0, 80, 40, 60000)
	for i, q := range []struct {
		parts []api.Mesh
		s     api.Settings
		e     api.Errno
	}{
		{nil, settings(41, 20), api.ErrArg}, {nil, settings(40, 21), api.ErrArg}, {nil, settings(30, 20), api.ErrArg}, {nil, settings(40, 2), api.ErrArg},
		{nil, settings(1026, 20), api.ErrArg}, {nil, settings(40, 1026), api.ErrArg}, {nil, settings(-40, 20), api.ErrArg}, {nil, settings(0, 0), api.ErrArg},
		{[]api.Mesh{open}, settings(41, 20), api.ErrArg},
		{[]api.Mesh{b, open}, settings(40, 20), api.ErrOpen}, {[]api.Mesh{twice, open}, settings(40, 20), api.ErrManifold},
		{[]api.Mesh{mesh.Reverse(b), open}, settings(40, 20), api.ErrArg}, {[]api.Mesh{open, mesh.Reverse(b)}, settings(40, 20), api.ErrOpen},
		{[]api.Mesh{{Tris: []api.Tri{{}}}}, settings(40, 20), api.ErrArg}, {[]api.Mesh{{Verts: make([]api.Vec, api.MaxVerts+1)}}, settings(40, 20), api.ErrLimit},
		{[]api.Mesh{below}, settings(40, 20), api.ErrRange}, {[]api.Mesh{tall}, settings(40, 20), api.ErrLimit}, {[]api.Mesh{tall}, settings(40, 236), api.OK},
		{[]api.Mesh{tall, below}, settings(40, 20), api.ErrLimit}, {[]api.Mesh{below, tall}, settings(40, 20), api.ErrRange},
		{[]api.Mesh{{Verts: []api.Vec{{Z: 60000}, {Z: -1}}}}, settings(40, 20), api.ErrRange},
	} {
		if got, e := Slices(q.parts, q.s); e != q.e || e != api.OK && len(got) != 0 {
			t.Errorf("list %d: Slices: %d regions, error %d; want %d", i, len(got), e, q.e)
		}
	}
}

// P26.3, P26.4.
func TestSlicesOfSeveralParts(t *testing.T) {
	random := rand.New(rand.NewSource(27))
	for range 60 {
		s := settings(32+2*random.Intn(20), 4+2*random.Intn(20))
		var parts []api.Mesh
		var want []api.Region
		for range random.Intn(4) {
			m := pyramid(random.Intn(500)-250, random.Intn(500)-250, 100+random.Intn(600), random.Intn(40), 1+random.Intn(200))
			parts = append(parts, m)
			_, top, _ := mesh.Box(m)
			heights, _ := Heights(top.Z, s.Height)
			for i, z := range heights {
				slice, _ := Slice(m, z, s.Pitch)
				if i == len(want) {
					want = append(want, api.Region{})
				}
				want[i] = region.Union(want[i], slice)
			}
		}
		if got, e := Slices(parts, s); !equal(got, want) || e != api.OK {
			t.Errorf("Slices(%v, %v) = %v, %d; want %v", parts, s, got, e, want)
		}
	}
}
