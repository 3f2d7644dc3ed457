package section

import (
	"math"
	"math/big"
	"math/rand"
	"slices"
	"testing"

	"additive/api"
	"additive/mesh"
	"additive/shapes"
)

const edge = api.MaxCoord

// P15.1.
func TestPoint(t *testing.T) {
	for _, q := range []struct {
		a, b api.Vec
		z    int
		want api.Pt
		ok   bool
	}{
		{api.Vec{}, api.Vec{X: 10, Z: 2}, 0, api.Pt{X: 3}, true},
		{api.Vec{}, api.Vec{X: -10, Z: 2}, 0, api.Pt{X: -2}, true},
		{api.Vec{X: 8}, api.Vec{Z: 8}, 3, api.Pt{X: 5}, true},
		{api.Vec{X: 1, Y: 2}, api.Vec{X: 1, Y: 2, Z: 1}, 0, api.Pt{X: 1, Y: 2}, true},
		{api.Vec{Y: 7}, api.Vec{X: 4, Z: 1}, 0, api.Pt{X: 2, Y: 4}, true},
		{api.Vec{X: -edge, Y: edge, Z: -edge}, api.Vec{X: edge, Y: -edge, Z: edge}, 0, api.Pt{X: 1, Y: 0}, true},
		{api.Vec{X: -edge, Y: edge, Z: -edge}, api.Vec{X: edge, Y: -edge, Z: edge}, edge - 1, api.Pt{X: edge, Y: -edge + 1}, true},
		{api.Vec{X: -edge, Y: edge, Z: -edge}, api.Vec{X: edge, Y: -edge, Z: edge}, -edge, api.Pt{X: -edge + 1, Y: edge}, true},
		{api.Vec{}, api.Vec{X: 10, Z: 2}, 2, api.Pt{}, false},
		{api.Vec{}, api.Vec{X: 10, Z: 2}, -1, api.Pt{}, false},
		{api.Vec{X: 10, Z: 2}, api.Vec{X: 7}, 1, api.Pt{}, false},
		{api.Vec{X: 10}, api.Vec{X: 7}, 0, api.Pt{}, false},
		{api.Vec{X: edge + 1}, api.Vec{Z: 2}, 0, api.Pt{}, false},
		{api.Vec{X: 5}, api.Vec{Y: -edge - 1, Z: 2}, 0, api.Pt{}, false},
		{api.Vec{X: 5, Z: math.MinInt}, api.Vec{X: 5, Z: math.MaxInt}, 0, api.Pt{}, false},
		{api.Vec{}, api.Vec{X: 5, Z: 2}, math.MaxInt, api.Pt{}, false},
		{api.Vec{}, api.Vec{X: 5, Z: 2}, math.MinInt, api.Pt{}, false},
	} {
		if got, ok := Point(q.a, q.b, q.z); got != q.want || ok != q.ok {
			t.Errorf("Point(%v, %v, %d) = %v, %v; want %v, %v", q.a, q.b, q.z, got, ok, q.want, q.ok)
		}
	}
}

// crossing returns the coordinate at the height z + 1/2, rounded by exact arithmetic.
func crossing(a, b, low, high, z int) int {
	way := big.NewRat(int64(2*z+1-2*low), int64(2*(high-low)))
	way.Mul(way, big.NewRat(int64(b-a), 1))
	way.Add(way, big.NewRat(1, 2))
	floor := new(big.Int).Div(way.Num(), way.Denom()) // Div rounds down for a positive divisor
	return a + int(floor.Int64())
}

func randomVec(random *rand.Rand, most int) api.Vec {
	return api.Vec{X: random.Intn(2*most+1) - most, Y: random.Intn(2*most+1) - most, Z: random.Intn(2*most+1) - most}
}

// P15.1, P15.4.
func TestAnyPoint(t *testing.T) {
	random := rand.New(rand.NewSource(15))
	crossed := 0
	for range 5000 {
		most := []int{3, 20, edge}[random.Intn(3)]
		a, b, z := randomVec(random, most), randomVec(random, most), random.Intn(2*most+3)-most-1
		got, ok := Point(a, b, z)
		if ok != (a.Z <= z && z < b.Z) {
			t.Errorf("Point(%v, %v, %d): %v", a, b, z, ok)
		}
		if !ok {
			continue
		}
		crossed++
		want := api.Pt{X: crossing(a.X, b.X, a.Z, b.Z, z), Y: crossing(a.Y, b.Y, a.Z, b.Z, z)}
		if got != want || got.X < min(a.X, b.X) || got.X > max(a.X, b.X) || got.Y < min(a.Y, b.Y) || got.Y > max(a.Y, b.Y) {
			t.Errorf("Point(%v, %v, %d) = %v; want %v", a, b, z, got, want)
		}
	}
	if crossed < 500 {
		t.Errorf("only %d edges are crossed", crossed)
	}
}

// triangle returns a mesh of one triangle.
func triangle(a, b, c api.Vec) api.Mesh {
	return api.Mesh{Verts: []api.Vec{a, b, c}, Tris: []api.Tri{{A: 0, B: 1, C: 2}}}
}

// P15.2.
func TestCut(t *testing.T) {
	slope := triangle(api.Vec{}, api.Vec{X: 8}, api.Vec{Z: 8})
	steep := triangle(api.Vec{X: 3, Y: 4}, api.Vec{X: 3, Y: 4, Z: 1}, api.Vec{X: 3, Y: 4, Z: 2})
	top := triangle(api.Vec{Z: edge}, api.Vec{X: 8, Z: edge}, api.Vec{Z: -edge})
	both := api.Mesh{Verts: slope.Verts, Tris: []api.Tri{{A: 0, B: 1, C: 2}, {A: 1, B: 1, C: 2}, {A: 0, B: 0, C: 1}, {A: 0, B: 2, C: 1}}}
	for _, q := range []struct {
		m    api.Mesh
		z    int
		want []api.Seg
		e    api.Errno
	}{
		{m: slope, z: 3, want: []api.Seg{{A: api.Pt{}, B: api.Pt{X: 5}}}},
		{m: slope, z: 0, want: []api.Seg{{A: api.Pt{}, B: api.Pt{X: 8}}}},
		{m: slope, z: 7, want: []api.Seg{{A: api.Pt{}, B: api.Pt{X: 1}}}},
		{m: slope, z: 8},
		{m: slope, z: -1},
		{m: mesh.Reverse(slope), z: 3, want: []api.Seg{{A: api.Pt{X: 5}, B: api.Pt{}}}},
		// Segments with equal ends.
		{m: steep, z: 0, want: []api.Seg{{A: api.Pt{X: 3, Y: 4}, B: api.Pt{X: 3, Y: 4}}}},
		{m: both, z: 3, want: []api.Seg{{A: api.Pt{}, B: api.Pt{X: 5}}, {A: api.Pt{X: 5}, B: api.Pt{X: 5}}, {A: api.Pt{X: 5}, B: api.Pt{}}}},
		{m: top, z: edge - 1, want: []api.Seg{{A: api.Pt{X: 8}, B: api.Pt{}}}},
		{m: top, z: -edge, want: []api.Seg{{A: api.Pt{}, B: api.Pt{}}}},
		{m: top, z: edge},
		{m: top, z: edge + 1, e: api.ErrRange},
		{m: top, z: -edge - 1, e: api.ErrRange},
		{m: api.Mesh{}, z: 5},
		{m: api.Mesh{}, z: math.MaxInt, e: api.ErrRange},
		{m: api.Mesh{}, z: math.MinInt, e: api.ErrRange},
		{m: api.Mesh{Verts: make([]api.Vec, api.MaxVerts+1)}, z: edge + 1, e: api.ErrLimit},
		{m: triangle(api.Vec{}, api.Vec{X: edge + 1}, api.Vec{Z: 9}), e: api.ErrRange},
		{m: api.Mesh{Tris: []api.Tri{{}}}, z: math.MaxInt, e: api.ErrArg},
	} {
		given := slices.Clone(q.m.Tris)
		got, e := Cut(q.m, q.z)
		if !slices.Equal(got, q.want) || e != q.e || !slices.Equal(q.m.Tris, given) {
			t.Errorf("Cut(%v, %d) = %v, %d; want %v, %d", q.m, q.z, got, e, q.want, q.e)
		}
	}
}

// P15.2, P15.3, P15.5: turned and scaled prisms and pyramids, and triangles of any kind.
func TestCutAnyMesh(t *testing.T) {
	random := rand.New(rand.NewSource(16))
	segments := 0
	for range 400 {
		m := api.Mesh{}
		for range 3 + random.Intn(5) {
			m.Verts = append(m.Verts, randomVec(random, 9))
		}
		for range random.Intn(12) {
			m.Tris = append(m.Tris, api.Tri{A: random.Intn(len(m.Verts)), B: random.Intn(len(m.Verts)), C: random.Intn(len(m.Verts))})
		}
		z := random.Intn(20) - 10
		got, e := Cut(m, z)
		back, _ := Cut(mesh.Reverse(m), z)
		if e != api.OK || len(got) != len(back) {
			t.Fatalf("Cut(%v, %d) = %v, %d", m, z, got, e)
		}
		for i, s := range got {
			if back[i] != (api.Seg{A: s.B, B: s.A}) {
				t.Errorf("Cut(%v, %d): %v and %v", m, z, s, back[i])
			}
		}
		if want := cut(m, z); !slices.Equal(got, want) {
			t.Errorf("Cut(%v, %d) = %v; want %v", m, z, got, want)
		}
		segments += len(got)
	}
	if segments < 500 {
		t.Errorf("only %d segments", segments)
	}
}

// cut cuts each triangle at the edges that lead through the plane.
func cut(m api.Mesh, z int) []api.Seg {
	var l []api.Seg
	for _, tri := range m.Tris {
		var down, up []api.Pt
		for _, e := range [3]api.Edge{{A: tri.A, B: tri.B}, {A: tri.B, B: tri.C}, {A: tri.C, B: tri.A}} {
			a, b := m.Verts[e.A], m.Verts[e.B]
			if a.Z <= z && z < b.Z {
				up = append(up, api.Pt{X: crossing(a.X, b.X, a.Z, b.Z, z), Y: crossing(a.Y, b.Y, a.Z, b.Z, z)})
			}
			if b.Z <= z && z < a.Z {
				down = append(down, api.Pt{X: crossing(b.X, a.X, b.Z, a.Z, z), Y: crossing(b.Y, a.Y, b.Z, a.Z, z)})
			}
		}
		if len(up) == 1 && len(down) == 1 {
			l = append(l, api.Seg{A: down[0], B: up[0]})
		}
	}
	return l
}

// P15.3, and the direction of segments: the material is on the left.
func TestCutClosedMesh(t *testing.T) {
	random := rand.New(rand.NewSource(17))
	for range 100 {
		base := []api.Pt{{X: random.Intn(9), Y: random.Intn(9)}, {X: 20 + random.Intn(9), Y: random.Intn(9)}, {X: 9 + random.Intn(9), Y: 20 + random.Intn(9)}}
		apex := api.Vec{X: random.Intn(99) - 50, Y: random.Intn(99) - 50, Z: 1 + random.Intn(20)}
		m, e := shapes.Pyramid(base, 0, apex)
		if e != api.OK {
			t.Fatalf("Pyramid: error %d", e)
		}
		for z := -1; z <= apex.Z; z++ {
			l, e := Cut(m, z)
			if e != api.OK || z >= 0 && z < apex.Z && len(l) != 3 {
				t.Errorf("Cut(%v, %d) = %v, %d", m, z, l, e)
			}
			leaves := map[api.Pt]int{}
			area := 0
			for _, s := range l {
				leaves[s.A]++
				leaves[s.B]--
				area += s.A.X*s.B.Y - s.A.Y*s.B.X
			}
			for p, n := range leaves {
				if n != 0 {
					t.Errorf("Cut(%v, %d) = %v is open at %v", m, z, l, p)
				}
			}
			if z == 0 && area <= 0 {
				t.Errorf("Cut(%v, 0) = %v has the area %d", m, l, area)
			}
		}
	}
}
