package holes

import (
	"math"
	"math/rand"
	"slices"
	"testing"

	"additive/api"
	"additive/mesh"
	"additive/orient"
	"additive/topo"
)

func clone(m api.Mesh) api.Mesh {
	return api.Mesh{Verts: slices.Clone(m.Verts), Tris: slices.Clone(m.Tris)}
}

// meshOf returns a mesh with so many vertices, and with triangles whose indices are given in threes.
func meshOf(verts int, indices ...int) api.Mesh {
	m := api.Mesh{Tris: tris(indices...)}
	for i := range verts {
		m.Verts = append(m.Verts, api.Vec{X: i, Y: i * i % 101, Z: i * i * i % 103})
	}
	return m
}

func tris(indices ...int) []api.Tri {
	l := []api.Tri{}
	for i := 0; i < len(indices); i += 3 {
		l = append(l, api.Tri{A: indices[i], B: indices[i+1], C: indices[i+2]})
	}
	return l
}

// grid returns a flat square of n times n squares of two triangles each, whose vertices have the given names.
func grid(n int, names []int) api.Mesh {
	m := meshOf((n + 1) * (n + 1))
	for y := range n {
		for x := range n {
			at := y*(n+1) + x
			a, b, c, d := names[at], names[at+1], names[at+n+2], names[at+n+1]
			m.Tris = append(m.Tris, api.Tri{A: a, B: b, C: c}, api.Tri{A: c, B: d, C: a})
		}
	}
	return m
}

// P12.1.
func TestFan(t *testing.T) {
	for _, q := range []struct {
		loop []int
		want []api.Tri
	}{
		{nil, nil},
		{[]int{5}, nil},
		{[]int{5, 6}, nil},
		{[]int{5, 6, 7}, tris(5, 6, 7)},
		{[]int{4, 7, 2, 9}, tris(4, 7, 2, 4, 2, 9)},
		{[]int{1, 1, 1, 1, 1}, tris(1, 1, 1, 1, 1, 1, 1, 1, 1)},
		{[]int{-1, math.MaxInt, math.MinInt, 3, 0}, tris(-1, math.MaxInt, math.MinInt, -1, math.MinInt, 3, -1, 3, 0)},
	} {
		given := slices.Clone(q.loop)
		if got := Fan(q.loop); !slices.Equal(got, q.want) || !slices.Equal(q.loop, given) {
			t.Errorf("Fan(%v) = %v; want %v", q.loop, got, q.want)
		}
	}
	long := make([]int, 100000)
	if got := Fan(long); len(got) != 99998 {
		t.Errorf("the fan of a long list has %d triangles", len(got))
	}
}

// P12.2.
func TestFill(t *testing.T) {
	for _, q := range []struct {
		m     api.Mesh
		want  []api.Tri // those that are added
		holes int
		e     api.Errno
	}{
		{m: api.Mesh{}},
		{m: meshOf(3)},
		{m: meshOf(4, 0, 2, 1, 0, 1, 3, 0, 3, 2, 1, 2, 3)},
		{m: meshOf(4, 0, 1, 3, 0, 3, 2, 1, 2, 3), want: tris(0, 2, 1), holes: 1},
		{m: meshOf(3, 0, 1, 2), want: tris(0, 2, 1), holes: 1},
		{m: meshOf(4, 0, 1, 2, 0, 2, 3), want: tris(0, 3, 2, 0, 2, 1), holes: 1},
		{m: meshOf(6, 5, 2, 4, 1, 0, 3), want: tris(0, 1, 3, 2, 5, 4), holes: 2},
		{m: meshOf(4, 0, 0, 1, 2, 2, 2)},
		{m: meshOf(5, 0, 1, 2, 0, 3, 4), e: api.ErrManifold},
		{m: meshOf(4, 0, 1, 2, 0, 1, 3), e: api.ErrManifold},
		{m: api.Mesh{Verts: make([]api.Vec, api.MaxVerts+1), Tris: tris(0, 1, 2, 0, 1, 3)}, e: api.ErrLimit},
		{m: api.Mesh{Verts: []api.Vec{{}, {X: 1}, {Y: api.MaxCoord + 1}}, Tris: tris(0, 1, 3)}, e: api.ErrRange},
		{m: api.Mesh{Verts: []api.Vec{{}, {X: 1}, {Y: 1}}, Tris: tris(0, 1, 2, 0, 1, 3)}, e: api.ErrArg},
	} {
		given := clone(q.m)
		want := api.Mesh{}
		if q.e == api.OK {
			want = api.Mesh{Verts: q.m.Verts, Tris: slices.Concat(q.m.Tris, q.want)}
		}
		got, holes, e := Fill(q.m)
		if !mesh.Same(got, want) || holes != q.holes || e != q.e {
			t.Errorf("Fill(%v) = %v, %d, %d; want %v, %d, %d", q.m.Tris, got.Tris, holes, e, want.Tris, q.holes, q.e)
		}
		if !mesh.Same(q.m, given) {
			t.Errorf("Fill has changed %v", given.Tris)
		}
	}
}

// P12.2: just as many triangles as are allowed, and one more; the errors before that go first.
func TestFillLimit(t *testing.T) {
	full := func(tris int) api.Mesh {
		m := meshOf(4, 0, 1, 2)
		for len(m.Tris) < tris {
			m.Tris = append(m.Tris, api.Tri{A: 3, B: 3, C: 3})
		}
		return m
	}
	if got, holes, e := Fill(full(api.MaxTris - 1)); len(got.Tris) != api.MaxTris || holes != 1 || e != api.OK {
		t.Errorf("Fill up to the limit: %d triangles, %d, error %d", len(got.Tris), holes, e)
	}
	if got, holes, e := Fill(full(api.MaxTris)); !mesh.Same(got, api.Mesh{}) || holes != 0 || e != api.ErrLimit {
		t.Errorf("Fill beyond the limit: %d triangles, %d, error %d", len(got.Tris), holes, e)
	}
	m := full(api.MaxTris)
	m.Tris[1] = api.Tri{A: 0, B: 1, C: 3}
	if _, _, e := Fill(m); e != api.ErrManifold {
		t.Errorf("Fill beyond the limit, without loops: error %d", e)
	}
}

// P12.2, P12.3, P12.4.
func TestFillAnyMesh(t *testing.T) {
	random := rand.New(rand.NewSource(17))
	filled := 0
	for range 500 {
		n := 1 + random.Intn(4)
		m := grid(n, random.Perm((n+1)*(n+1)))
		random.Shuffle(len(m.Tris), func(i, j int) { m.Tris[i], m.Tris[j] = m.Tris[j], m.Tris[i] })
		m.Tris = m.Tris[:len(m.Tris)-random.Intn(3)]
		loops, want := topo.Loops(m)
		got, holes, e := Fill(m)
		if e != want {
			t.Errorf("Fill(%v): error %d; want %d", m.Tris, e, want)
		}
		if e != api.OK {
			continue
		}
		filled++
		if holes != len(loops) || !topo.Closed(got) || !slices.Equal(got.Verts, m.Verts) || !slices.Equal(got.Tris[:len(m.Tris)], m.Tris) {
			t.Errorf("Fill(%v) = %v, %d", m.Tris, got.Tris, holes)
		}
		if again, holes, e := Fill(got); !mesh.Same(again, got) || holes != 0 || e != api.OK {
			t.Errorf("Fill of %v changes it: %d, error %d", got.Tris, holes, e)
		}
		for _, edge := range topo.Boundary(m) {
			if there, back := topo.Uses(got, edge); there != back || there < 1 {
				t.Errorf("Fill(%v): the edge %v is used %d and %d times", m.Tris, edge, there, back)
			}
		}
		if !orient.Coherent(m) {
			t.Errorf("%v is not coherent", m.Tris)
		}
	}
	if filled < 100 {
		t.Errorf("only %d meshes can be filled", filled)
	}
}
