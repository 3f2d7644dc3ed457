package topo

import (
	"math"
	"math/rand"
	"slices"
	"testing"

	"additive/api"
	"additive/mesh"
)

const edge = api.MaxCoord

// meshOf returns a mesh with so many vertices and with triangles whose indices are given in threes.
func meshOf(verts int, indices ...int) api.Mesh {
	m := api.Mesh{}
	for i := range verts {
		m.Verts = append(m.Verts, api.Vec{X: i, Y: i * i, Z: i * i * i})
	}
	for i := 0; i < len(indices); i += 3 {
		m.Tris = append(m.Tris, api.Tri{A: indices[i], B: indices[i+1], C: indices[i+2]})
	}
	return m
}

// edges returns edges whose ends are given in pairs.
func edges(ends ...int) []api.Edge {
	l := []api.Edge{}
	for i := 0; i < len(ends); i += 2 {
		l = append(l, api.Edge{A: ends[i], B: ends[i+1]})
	}
	return l
}

// tetrahedron is closed.
func tetrahedron() api.Mesh {
	return meshOf(4, 0, 2, 1, 0, 1, 3, 0, 3, 2, 1, 2, 3)
}

// sample is a mesh with all that the functions return for it.
type sample struct {
	name     string
	m        api.Mesh
	edges    []api.Edge
	boundary []api.Edge
	loops    [][]int
	e        api.Errno
	shells   [][]int
	euler    int
}

func samples() []sample {
	return []sample{
		{name: "nothing"},
		{name: "vertices only", m: meshOf(3)},
		{
			name: "one triangle", m: meshOf(3, 0, 1, 2), edges: edges(0, 1, 0, 2, 1, 2), boundary: edges(0, 1, 1, 2, 2, 0),
			loops: [][]int{{0, 2, 1}}, shells: [][]int{{0}}, euler: 1,
		},
		{
			name: "one triangle, the other way", m: meshOf(9, 7, 5, 3), edges: edges(3, 5, 3, 7, 5, 7), boundary: edges(3, 7, 5, 3, 7, 5),
			loops: [][]int{{3, 5, 7}}, shells: [][]int{{0}}, euler: 1,
		},
		{
			name: "tetrahedron", m: tetrahedron(), edges: edges(0, 1, 0, 2, 0, 3, 1, 2, 1, 3, 2, 3), shells: [][]int{{0, 1, 2, 3}}, euler: 2,
		},
		{
			name: "open tetrahedron", m: meshOf(4, 0, 1, 3, 0, 3, 2, 1, 2, 3), edges: edges(0, 1, 0, 2, 0, 3, 1, 2, 1, 3, 2, 3), boundary: edges(0, 1, 1, 2, 2, 0),
			loops: [][]int{{0, 2, 1}}, shells: [][]int{{0, 1, 2}}, euler: 1,
		},
		{
			name: "common vertex", m: meshOf(5, 0, 1, 2, 0, 3, 4), edges: edges(0, 1, 0, 2, 0, 3, 0, 4, 1, 2, 3, 4), boundary: edges(0, 1, 0, 3, 1, 2, 2, 0, 3, 4, 4, 0),
			e: api.ErrManifold, shells: [][]int{{0}, {1}}, euler: 1,
		},
		{
			name: "two triangles apart", m: meshOf(6, 5, 2, 4, 1, 0, 3), edges: edges(0, 1, 0, 3, 1, 3, 2, 4, 2, 5, 4, 5), boundary: edges(0, 3, 1, 0, 2, 4, 3, 1, 4, 5, 5, 2),
			loops: [][]int{{0, 1, 3}, {2, 5, 4}}, shells: [][]int{{0}, {1}}, euler: 2,
		},
		{
			name: "square", m: meshOf(4, 0, 1, 2, 0, 2, 3), edges: edges(0, 1, 0, 2, 0, 3, 1, 2, 2, 3), boundary: edges(0, 1, 1, 2, 2, 3, 3, 0),
			loops: [][]int{{0, 3, 2, 1}}, shells: [][]int{{0, 1}}, euler: 1,
		},
		{
			// The common edge is used twice in one direction: the triangles are connected, but no loop is possible.
			name: "square with a turned triangle", m: meshOf(4, 0, 1, 2, 2, 0, 3), edges: edges(0, 1, 0, 2, 0, 3, 1, 2, 2, 3), boundary: edges(0, 1, 0, 3, 1, 2, 2, 0, 3, 2),
			e: api.ErrManifold, shells: [][]int{{0, 1}}, euler: 1,
		},
		{
			name: "twice the same triangle", m: meshOf(3, 0, 1, 2, 1, 2, 0), edges: edges(0, 1, 0, 2, 1, 2), boundary: edges(0, 1, 1, 2, 2, 0),
			e: api.ErrManifold, shells: [][]int{{0, 1}}, euler: 2,
		},
		{
			// A boundary edge whose reverse is used, too.
			name: "three triangles, two of them the same", m: meshOf(3, 0, 1, 2, 0, 1, 2, 0, 2, 1), edges: edges(0, 1, 0, 2, 1, 2), boundary: edges(0, 1, 1, 2, 2, 0),
			e: api.ErrManifold, shells: [][]int{{0, 1, 2}}, euler: 3,
		},
		{name: "both sides of a triangle", m: meshOf(3, 0, 1, 2, 2, 1, 0), edges: edges(0, 1, 0, 2, 1, 2), shells: [][]int{{0, 1}}, euler: 2},
		{name: "a triangle with two equal indices", m: meshOf(2, 0, 0, 1), edges: edges(0, 1), shells: [][]int{{0}}, euler: 2},
		{name: "triangles with three equal indices", m: meshOf(2, 1, 1, 1, 1, 1, 1), shells: [][]int{{0}, {1}}, euler: 3},
		{
			// The first and the last triangle are connected by the one between them, which comes later than both.
			name: "connected late", m: meshOf(7, 4, 5, 6, 0, 1, 2, 3, 3, 3, 1, 2, 4, 2, 4, 5), edges: edges(0, 1, 0, 2, 1, 2, 1, 4, 2, 4, 2, 5, 4, 5, 4, 6, 5, 6),
			boundary: edges(0, 1, 1, 2, 2, 0, 2, 4, 4, 1, 4, 5, 5, 2, 5, 6, 6, 4), e: api.ErrManifold, shells: [][]int{{0, 1, 3, 4}, {2}}, euler: 3,
		},
	}
}

// equalLists compares lists of lists.
func equalLists(a, b [][]int) bool {
	return slices.EqualFunc(a, b, slices.Equal[[]int])
}

// P10.1, P10.3, P10.4, P10.5, P10.6, P10.7.
func TestSamples(t *testing.T) {
	for _, q := range samples() {
		if got := Edges(q.m); !slices.Equal(got, q.edges) {
			t.Errorf("%s: Edges = %v; want %v", q.name, got, q.edges)
		}
		if got := Boundary(q.m); !slices.Equal(got, q.boundary) {
			t.Errorf("%s: Boundary = %v; want %v", q.name, got, q.boundary)
		}
		if got, e := Loops(q.m); !equalLists(got, q.loops) || e != q.e {
			t.Errorf("%s: Loops = %v, %d; want %v, %d", q.name, got, e, q.loops, q.e)
		}
		if got := Shells(q.m); !equalLists(got, q.shells) {
			t.Errorf("%s: Shells = %v; want %v", q.name, got, q.shells)
		}
		if got := Closed(q.m); got != (len(q.boundary) == 0) {
			t.Errorf("%s: Closed = %v", q.name, got)
		}
		if got := Euler(q.m); got != q.euler {
			t.Errorf("%s: Euler = %d; want %d", q.name, got, q.euler)
		}
	}
}

// P10.2.
func TestUses(t *testing.T) {
	m := meshOf(5, 0, 1, 2, 1, 2, 0, 2, 1, 3, 0, 0, 1, 4, 4, 4)
	for _, q := range []struct{ a, b, there, back int }{
		{0, 1, 3, 1}, {1, 0, 1, 3}, {1, 2, 2, 1}, {2, 1, 1, 2}, {2, 0, 2, 0}, {0, 2, 0, 2}, {1, 3, 1, 0}, {3, 1, 0, 1},
		{0, 3, 0, 0}, {0, 4, 0, 0}, {0, 0, 0, 0}, {4, 4, 0, 0}, {1, 1, 0, 0},
		{-1, 0, 0, 0}, {0, 5, 0, 0}, {math.MinInt, math.MaxInt, 0, 0},
	} {
		if there, back := Uses(m, api.Edge{A: q.a, B: q.b}); there != q.there || back != q.back {
			t.Errorf("Uses of %d to %d = %d, %d; want %d, %d", q.a, q.b, there, back, q.there, q.back)
		}
	}
}

// P10.1 to P10.7: meshes that are not valid.
func TestInvalidMeshes(t *testing.T) {
	for want, m := range map[api.Errno]api.Mesh{
		api.ErrLimit: {Verts: make([]api.Vec, api.MaxVerts+1), Tris: []api.Tri{{A: 0, B: 1, C: 2}}},
		api.ErrRange: {Verts: []api.Vec{{}, {X: 1}, {Y: edge + 1}}, Tris: []api.Tri{{A: 0, B: 1, C: 2}}},
		api.ErrArg:   {Verts: []api.Vec{{}, {X: 1}, {Y: 1}}, Tris: []api.Tri{{A: 0, B: 1, C: 2}, {A: 0, B: 1, C: 3}}},
	} {
		if l := Edges(m); len(l) != 0 {
			t.Errorf("error %d: Edges = %v", want, l)
		}
		if there, back := Uses(m, api.Edge{A: 0, B: 1}); there != 0 || back != 0 {
			t.Errorf("error %d: Uses = %d, %d", want, there, back)
		}
		if l := Boundary(m); len(l) != 0 {
			t.Errorf("error %d: Boundary = %v", want, l)
		}
		if l, e := Loops(m); len(l) != 0 || e != want {
			t.Errorf("Loops = %v, %d; want error %d", l, e, want)
		}
		if l := Shells(m); len(l) != 0 {
			t.Errorf("error %d: Shells = %v", want, l)
		}
		if Closed(m) {
			t.Errorf("error %d: Closed", want)
		}
		if n := Euler(m); n != 0 {
			t.Errorf("error %d: Euler = %d", want, n)
		}
	}
	// A mesh whose triangles are closed is not, if it is not valid.
	bad := tetrahedron()
	bad.Verts = append(bad.Verts, api.Vec{X: math.MinInt})
	if Closed(bad) || Euler(bad) != 0 {
		t.Error("a mesh with a vertex that is not valid is closed")
	}
}

// count returns how often triangles lead from a to b, where a and b are different.
func count(m api.Mesh, a, b int) int {
	n := 0
	for _, t := range m.Tris {
		for _, e := range [][2]int{{t.A, t.B}, {t.B, t.C}, {t.C, t.A}} {
			if e == [2]int{a, b} && a != b {
				n++
			}
		}
	}
	return n
}

// joined reports whether two triangles have a common undirected edge.
func joined(m api.Mesh, i, j int) bool {
	s, t := api.Mesh{Tris: m.Tris[i : i+1]}, api.Mesh{Tris: m.Tris[j : j+1]}
	for a := range m.Verts {
		for b := range m.Verts {
			if count(s, a, b)+count(s, b, a) > 0 && count(t, a, b)+count(t, b, a) > 0 {
				return true
			}
		}
	}
	return false
}

// describe finds by search what the functions return for a mesh.
func describe(m api.Mesh) sample {
	q := sample{m: m}
	simple := true
	after := map[int][]int{} // where boundary edges lead to
	touched := map[int]bool{}
	for a := range m.Verts {
		for b := range m.Verts {
			there, back := count(m, a, b), count(m, b, a)
			if a < b && there+back > 0 {
				q.edges = append(q.edges, api.Edge{A: a, B: b})
			}
			if there > back {
				q.boundary = append(q.boundary, api.Edge{A: a, B: b})
				after[a] = append(after[a], b)
				simple = simple && there == 1 && back == 0 && len(after[a]) == 1
			}
		}
	}
	for _, t := range m.Tris {
		touched[t.A], touched[t.B], touched[t.C] = true, true, true
	}
	q.euler = len(touched) - len(q.edges) + len(m.Tris)
	if simple {
		q.loops = loopsOf(len(m.Verts), after)
	} else {
		q.e = api.ErrManifold
	}
	q.shells = shellsOf(m)
	return q
}

// loopsOf follows the boundary edges from each vertex on, and turns each cycle around.
func loopsOf(verts int, after map[int][]int) [][]int {
	var loops [][]int
	done := map[int]bool{}
	for v := range verts {
		if done[v] || len(after[v]) == 0 {
			continue
		}
		cycle := []int{}
		for at := v; !done[at]; at = after[at][0] {
			done[at] = true
			cycle = append(cycle, at)
		}
		slices.Reverse(cycle[1:])
		loops = append(loops, cycle)
	}
	return loops
}

// shellsOf spreads a label from triangle to triangle until nothing changes.
func shellsOf(m api.Mesh) [][]int {
	labels := make([]int, len(m.Tris))
	for i := range labels {
		labels[i] = i
	}
	for changed := true; changed; {
		changed = false
		for i := range labels {
			for j := range labels {
				if labels[j] < labels[i] && joined(m, i, j) {
					labels[i], changed = labels[j], true
				}
			}
		}
	}
	var shells [][]int
	for label := range labels {
		var shell []int
		for i := range labels {
			if labels[i] == label {
				shell = append(shell, i)
			}
		}
		if len(shell) > 0 {
			shells = append(shells, shell)
		}
	}
	return shells
}

// randomMesh returns a mesh of triangles of any kind, sometimes of a few from a grid, so that its boundary is simple more often.
func randomMesh(random *rand.Rand) api.Mesh {
	if random.Intn(2) == 0 {
		m := meshOf(3 + random.Intn(6))
		for range random.Intn(8) {
			m.Tris = append(m.Tris, api.Tri{A: random.Intn(len(m.Verts)), B: random.Intn(len(m.Verts)), C: random.Intn(len(m.Verts))})
		}
		return m
	}
	m := meshOf(16)
	names := random.Perm(16)
	for x := range 3 {
		for y := range 3 {
			a, b, c, d := names[4*y+x], names[4*y+x+1], names[4*y+x+5], names[4*y+x+4]
			m.Tris = append(m.Tris, api.Tri{A: a, B: b, C: c}, api.Tri{A: c, B: d, C: a})
		}
	}
	random.Shuffle(len(m.Tris), func(i, j int) { m.Tris[i], m.Tris[j] = m.Tris[j], m.Tris[i] })
	m.Tris = m.Tris[:random.Intn(len(m.Tris)+1)]
	return m
}

// P10.1 to P10.7.
func TestAnyMesh(t *testing.T) {
	random := rand.New(rand.NewSource(16))
	simple, several := 0, 0
	for range 1500 {
		m := randomMesh(random)
		given := api.Mesh{Verts: slices.Clone(m.Verts), Tris: slices.Clone(m.Tris)}
		want := describe(m)
		if got := Edges(m); !slices.Equal(got, want.edges) {
			t.Errorf("Edges(%v) = %v; want %v", m.Tris, got, want.edges)
		}
		if got := Boundary(m); !slices.Equal(got, want.boundary) {
			t.Errorf("Boundary(%v) = %v; want %v", m.Tris, got, want.boundary)
		}
		if got, e := Loops(m); !equalLists(got, want.loops) || e != want.e {
			t.Errorf("Loops(%v) = %v, %d; want %v, %d", m.Tris, got, e, want.loops, want.e)
		}
		if got := Shells(m); !equalLists(got, want.shells) {
			t.Errorf("Shells(%v) = %v; want %v", m.Tris, got, want.shells)
		}
		if got := Closed(m); got != (len(want.boundary) == 0) {
			t.Errorf("Closed(%v) = %v", m.Tris, got)
		}
		if got := Euler(m); got != want.euler {
			t.Errorf("Euler(%v) = %d; want %d", m.Tris, got, want.euler)
		}
		a, b := random.Intn(len(m.Verts)), random.Intn(len(m.Verts))
		if there, back := Uses(m, api.Edge{A: a, B: b}); there != count(m, a, b) || back != count(m, b, a) {
			t.Errorf("Uses(%v) of %d to %d = %d, %d", m.Tris, a, b, there, back)
		}
		if !mesh.Same(m, given) {
			t.Fatalf("%v has been changed", given)
		}
		if want.e == api.OK && len(want.loops) > 0 {
			simple++
		}
		if len(want.loops) > 1 {
			several++
		}
	}
	if simple < 100 || several < 20 {
		t.Errorf("only %d meshes have loops, and %d have several ones", simple, several)
	}
}

// P10.1 to P10.7: the largest mesh that is a strip, with a hole between its two long sides.
func TestLargeMesh(t *testing.T) {
	const n = api.MaxTris / 2
	m := meshOf(0)
	m.Verts = make([]api.Vec, 2*n)
	for i := range n {
		next := (i + 1) % n
		m.Tris = append(m.Tris, api.Tri{A: i, B: next, C: n + i}, api.Tri{A: next, B: n + next, C: n + i})
	}
	loops, e := Loops(m)
	if e != api.OK || len(loops) != 2 || len(loops[0]) != n || len(loops[1]) != n {
		t.Fatalf("Loops: %d loops, error %d", len(loops), e)
	}
	for i := range n {
		if loops[0][i] != (n-i)%n || loops[1][i] != n+i {
			t.Fatalf("Loops: number %d of the vertices is %d and %d", i, loops[0][i], loops[1][i])
		}
	}
	shells := Shells(m)
	if len(shells) != 1 || len(shells[0]) != 2*n || len(Edges(m)) != 4*n || len(Boundary(m)) != 2*n || Closed(m) || Euler(m) != 0 {
		t.Errorf("%d shells, %d edges, %d boundary edges, Euler %d", len(shells), len(Edges(m)), len(Boundary(m)), Euler(m))
	}
}
