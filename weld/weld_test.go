package weld

import (
	"math"
	"math/rand"
	"slices"
	"testing"

	"additive/api"
	"additive/mesh"
	"additive/vec"
)

const edge = api.MaxCoord

func clone(m api.Mesh) api.Mesh {
	return api.Mesh{Verts: slices.Clone(m.Verts), Tris: slices.Clone(m.Tris)}
}

// tris returns triangles whose indices are given in threes.
func tris(indices ...int) []api.Tri {
	l := []api.Tri{}
	for i := 0; i < len(indices); i += 3 {
		l = append(l, api.Tri{A: indices[i], B: indices[i+1], C: indices[i+2]})
	}
	return l
}

// corner are three vertices that do not lie on a line.
func corner() []api.Vec {
	return []api.Vec{{}, {X: 1}, {Y: 1}}
}

// invalid are meshes that are not valid, with the error of mesh.Check.
func invalid() map[api.Errno]api.Mesh {
	return map[api.Errno]api.Mesh{
		api.ErrLimit: {Verts: make([]api.Vec, api.MaxVerts+1), Tris: tris(-1, 0, 0)},
		api.ErrRange: {Verts: []api.Vec{{Y: edge + 1}, {}, {}}, Tris: tris(0, 1, 3)},
		api.ErrArg:   {Verts: corner(), Tris: tris(0, 1, 2, 0, 1, 3)},
	}
}

// randomMesh returns a valid mesh that has equal vertices, vertices that are not used, degenerate triangles and twins.
func randomMesh(random *rand.Rand) api.Mesh {
	m := api.Mesh{Verts: make([]api.Vec, 1+random.Intn(8)), Tris: make([]api.Tri, random.Intn(12))}
	most := 1 + random.Intn(3)
	coordinate := func() int { return random.Intn(most+1) - most/2 }
	for i := range m.Verts {
		m.Verts[i] = api.Vec{X: coordinate(), Y: coordinate(), Z: coordinate()}
	}
	for i := range m.Tris {
		m.Tris[i] = api.Tri{A: random.Intn(len(m.Verts)), B: random.Intn(len(m.Verts)), C: random.Intn(len(m.Verts))}
		if i > 0 && random.Intn(3) == 0 {
			t := m.Tris[random.Intn(i)]
			m.Tris[i] = [...]api.Tri{t, {A: t.B, B: t.C, C: t.A}, {A: t.C, B: t.A, C: t.B}, {A: t.B, B: t.A, C: t.C}}[random.Intn(4)]
		}
	}
	return m
}

// corners returns the corners of all triangles.
func corners(m api.Mesh) [][3]api.Vec {
	var l [][3]api.Vec
	for i := range m.Tris {
		a, b, c, _ := mesh.Corners(m, i)
		l = append(l, [3]api.Vec{a, b, c})
	}
	return l
}

// P9.1.
func TestWeld(t *testing.T) {
	for _, q := range []struct {
		m, want api.Mesh
		gone    int
	}{
		{
			api.Mesh{Verts: []api.Vec{{X: 1}, {}, {Y: 1}, {}, {X: 9, Y: 9, Z: 9}}, Tris: tris(0, 2, 3)},
			api.Mesh{Verts: []api.Vec{{}, {Y: 1}, {X: 1}}, Tris: tris(2, 1, 0)}, 2,
		},
		{api.Mesh{}, api.Mesh{}, 0},
		{api.Mesh{Verts: corner()}, api.Mesh{}, 3},
		{api.Mesh{Verts: corner(), Tris: tris(0, 1, 2)}, api.Mesh{Verts: []api.Vec{{}, {Y: 1}, {X: 1}}, Tris: tris(0, 2, 1)}, 0},
		{
			// Equal triangles stay, and so do those that become degenerate.
			api.Mesh{Verts: []api.Vec{{Z: 5}, {Z: 5}, {Z: -5}}, Tris: tris(0, 1, 2, 0, 1, 2, 1, 0, 2, 2, 2, 2)},
			api.Mesh{Verts: []api.Vec{{Z: -5}, {Z: 5}}, Tris: tris(1, 1, 0, 1, 1, 0, 1, 1, 0, 0, 0, 0)}, 1,
		},
		{
			api.Mesh{Verts: []api.Vec{{X: 2, Y: 1, Z: 1}, {X: 1, Y: 2, Z: 1}, {X: 1, Y: 1, Z: 2}, {X: 1, Y: 1, Z: -2}}, Tris: tris(3, 2, 1, 1, 0, 2)},
			api.Mesh{Verts: []api.Vec{{X: 1, Y: 1, Z: -2}, {X: 1, Y: 1, Z: 2}, {X: 1, Y: 2, Z: 1}, {X: 2, Y: 1, Z: 1}}, Tris: tris(0, 1, 2, 2, 3, 1)}, 0,
		},
	} {
		got, gone, e := Weld(q.m)
		if !mesh.Same(got, q.want) || gone != q.gone || e != api.OK {
			t.Errorf("Weld(%v) = %v, %d, %d; want %v, %d", q.m, got, gone, e, q.want, q.gone)
		}
	}
	for want, m := range invalid() {
		if got, gone, e := Weld(m); !mesh.Same(got, api.Mesh{}) || gone != 0 || e != want {
			t.Errorf("Weld of an invalid mesh: %d, error %d; want %d", gone, e, want)
		}
	}
}

// P9.1, P9.4.
func TestWeldAnyMesh(t *testing.T) {
	random := rand.New(rand.NewSource(14))
	for range 2000 {
		m := randomMesh(random)
		given := clone(m)
		got, gone, e := Weld(m)
		if e != api.OK || gone != len(m.Verts)-len(got.Verts) || mesh.Check(got) != api.OK {
			t.Errorf("Weld(%v) = %v, %d, %d", m, got, gone, e)
		}
		if !mesh.Same(m, given) {
			t.Fatalf("Weld has changed %v", given)
		}
		if !slices.Equal(corners(got), corners(m)) {
			t.Errorf("Weld(%v) = %v has other corners", m, got)
		}
		used := make([]bool, len(got.Verts))
		for _, tri := range got.Tris {
			used[tri.A], used[tri.B], used[tri.C] = true, true, true
		}
		for i, v := range got.Verts {
			if !used[i] || i > 0 && !vec.Less(got.Verts[i-1], v) {
				t.Errorf("Weld(%v) = %v: vertex %d is not used or not in order", m, got, i)
			}
		}
		if again, gone, e := Weld(got); !mesh.Same(again, got) || gone != 0 || e != api.OK {
			t.Errorf("Weld(%v) = %v, %d, %d", got, again, gone, e)
		}
	}
}

// P9.1: the largest mesh.
func TestWeldLargeMesh(t *testing.T) {
	m := api.Mesh{Verts: make([]api.Vec, api.MaxVerts), Tris: make([]api.Tri, api.MaxTris)}
	for i := range m.Verts {
		m.Verts[i] = api.Vec{X: -i / 2, Y: i % 2}
		m.Tris[i] = api.Tri{A: i, B: i ^ 1, C: 0}
	}
	got, gone, e := Weld(m)
	if len(got.Verts) != api.MaxVerts || gone != 0 || e != api.OK || !slices.Equal(corners(got), corners(m)) {
		t.Errorf("Weld of the largest mesh: %d vertices, %d, %d", len(got.Verts), gone, e)
	}
}

// P9.2.
func TestDegenerate(t *testing.T) {
	m := api.Mesh{
		Verts: []api.Vec{{}, {X: 1, Y: 2, Z: 3}, {X: 2, Y: 4, Z: 6}, {X: 2, Y: 4, Z: 7}, {}},
		Tris:  tris(0, 1, 2, 0, 1, 3, 0, 0, 1, 0, 4, 3, 3, 3, 3, 2, 0, 1, 2, 1, 3),
	}
	for i, want := range []bool{true, false, true, true, true, true, false} {
		if got := Degenerate(m, i); got != want {
			t.Errorf("Degenerate of triangle %d is %v", i, got)
		}
	}
	for _, i := range []int{math.MinInt, -1, 7, math.MaxInt} {
		if Degenerate(m, i) {
			t.Errorf("Degenerate of triangle %d, which does not exist", i)
		}
	}
	for _, bad := range []api.Mesh{
		{},
		{Verts: []api.Vec{{}}, Tris: tris(0, 0, 0, 0, 0, 1)},
		{Verts: []api.Vec{{}, {Z: edge + 1}}, Tris: tris(0, 0, 0)},
		{Verts: make([]api.Vec, api.MaxVerts+1), Tris: tris(0, 0, 0)},
	} {
		if Degenerate(bad, 0) {
			t.Errorf("Degenerate of a triangle of an invalid mesh with %d vertices", len(bad.Verts))
		}
	}
}

// P9.3.
func TestClean(t *testing.T) {
	five := []api.Vec{{}, {X: 1}, {Y: 1}, {X: 2}, {Z: 1}}
	for _, q := range []struct {
		m                 api.Mesh
		want              []api.Tri
		degenerate, twins int
	}{
		{api.Mesh{Verts: corner(), Tris: tris(0, 1, 2, 1, 2, 0, 2, 1, 0, 0, 0, 1)}, tris(0, 1, 2, 2, 1, 0), 1, 1},
		{api.Mesh{}, nil, 0, 0},
		{api.Mesh{Verts: five}, nil, 0, 0},
		{api.Mesh{Verts: five, Tris: tris(0, 1, 3, 1, 3, 0, 0, 1, 3)}, nil, 3, 0}, // twins of degenerate ones are degenerate
		{api.Mesh{Verts: five, Tris: tris(2, 0, 1, 0, 1, 2, 1, 2, 0, 2, 0, 1)}, tris(2, 0, 1), 0, 3},
		{api.Mesh{Verts: five, Tris: tris(4, 2, 1, 2, 1, 4, 1, 2, 4, 4, 1, 2)}, tris(4, 2, 1, 1, 2, 4), 0, 2},
		{api.Mesh{Verts: five, Tris: tris(4, 1, 0, 2, 1, 0, 0, 2, 1, 0, 4, 1)}, tris(4, 1, 0, 2, 1, 0), 0, 2},
		// Equal corners with other indices do not make twins.
		{api.Mesh{Verts: append(corner(), corner()...), Tris: tris(0, 1, 2, 3, 4, 5, 0, 4, 2, 0, 3, 1)}, tris(0, 1, 2, 3, 4, 5, 0, 4, 2), 1, 0},
	} {
		want := api.Mesh{Verts: q.m.Verts, Tris: q.want}
		got, degenerate, twins, e := Clean(q.m)
		if !mesh.Same(got, want) || degenerate != q.degenerate || twins != q.twins || e != api.OK {
			t.Errorf("Clean(%v) = %v, %d, %d, %d; want %v, %d, %d", q.m, got, degenerate, twins, e, want, q.degenerate, q.twins)
		}
	}
	for want, m := range invalid() {
		if got, degenerate, twins, e := Clean(m); !mesh.Same(got, api.Mesh{}) || degenerate != 0 || twins != 0 || e != want {
			t.Errorf("Clean of an invalid mesh: %d, %d, error %d; want %d", degenerate, twins, e, want)
		}
	}
}

// areTwins reports whether one of the triangles is the other one, turned zero, one or two times.
func areTwins(s, t api.Tri) bool {
	return s == t || s == api.Tri{A: t.B, B: t.C, C: t.A} || s == api.Tri{A: t.C, B: t.A, C: t.B}
}

// P9.3, P9.5.
func TestCleanAnyMesh(t *testing.T) {
	random := rand.New(rand.NewSource(15))
	for range 2000 {
		m := randomMesh(random)
		given := clone(m)
		want := api.Mesh{Verts: m.Verts}
		wantDegenerate, wantTwins := 0, 0
		for i, tri := range m.Tris {
			switch {
			case Degenerate(m, i):
				wantDegenerate++
			case slices.ContainsFunc(want.Tris, func(other api.Tri) bool { return areTwins(tri, other) }):
				wantTwins++
			default:
				want.Tris = append(want.Tris, tri)
			}
		}
		got, degenerate, twins, e := Clean(m)
		if !mesh.Same(got, want) || degenerate != wantDegenerate || twins != wantTwins || e != api.OK {
			t.Errorf("Clean(%v) = %v, %d, %d, %d; want %v, %d, %d", m, got, degenerate, twins, e, want, wantDegenerate, wantTwins)
		}
		if again, degenerate, twins, e := Clean(got); !mesh.Same(again, got) || degenerate != 0 || twins != 0 || e != api.OK {
			t.Errorf("Clean(%v) = %v, %d, %d, %d", got, again, degenerate, twins, e)
		}
		if len(got.Verts) > 0 {
			got.Verts[0].X = 99
		}
		if len(got.Tris) > 0 {
			got.Tris[0].A = 99
		}
		if !mesh.Same(m, given) {
			t.Fatalf("Clean has changed %v, or shares memory with it", given)
		}
	}
}
