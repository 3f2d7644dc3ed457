package orient

import (
	"math/bits"
	"math/rand"
	"slices"
	"testing"

	"additive/api"
	"additive/mesh"
	"additive/topo"
)

func clone(m api.Mesh) api.Mesh {
	return api.Mesh{Verts: slices.Clone(m.Verts), Tris: slices.Clone(m.Tris)}
}

// tris returns triangles whose indices are given in threes.
func tris(indices ...int) []api.Tri {
	l := []api.Tri{}
	for i := 0; i < len(indices); i += 3 {
		l = append(l, api.Tri{A: indices[i], B: indices[i+1], C: indices[i+2]})
	}
	return l
}

// meshOf returns a mesh with so many vertices, no four of them in a plane, and with triangles whose indices are given in threes.
func meshOf(verts int, indices ...int) api.Mesh {
	m := api.Mesh{Tris: tris(indices...)}
	for i := range verts {
		m.Verts = append(m.Verts, api.Vec{X: i, Y: i * i, Z: i * i * i})
	}
	return m
}

// solid returns tetrahedra side by side, each of which has four vertices of its own; those whose bit is set are inside out.
func solid(count int, inverted uint) api.Mesh {
	var m api.Mesh
	for i := range count {
		at := 4 * i
		m.Verts = append(m.Verts, api.Vec{X: at}, api.Vec{X: at + 1}, api.Vec{X: at, Y: 1}, api.Vec{X: at, Z: 1})
		part := api.Mesh{Verts: m.Verts, Tris: tris(at, at+2, at+1, at, at+1, at+3, at, at+3, at+2, at+1, at+2, at+3)}
		if inverted>>i&1 == 1 {
			part = mesh.Reverse(part)
		}
		m.Tris = append(m.Tris, part.Tris...)
	}
	return m
}

// invalid are meshes that are not valid, with the error of mesh.Check.
func invalid() map[api.Errno]api.Mesh {
	return map[api.Errno]api.Mesh{
		api.ErrLimit: {Verts: make([]api.Vec, api.MaxVerts+1), Tris: tris(0, 1, 2, 0, 1, 3, 0, 1, 4)},
		api.ErrRange: {Verts: []api.Vec{{}, {X: 1}, {Y: api.MaxCoord + 1}}, Tris: tris(0, 1, 2, 0, 1, 2, 0, 1, 2)},
		api.ErrArg:   {Verts: []api.Vec{{}, {X: 1}, {Y: 1}}, Tris: tris(0, 1, 3)},
	}
}

// P11.1.
func TestCoherent(t *testing.T) {
	for _, q := range []struct {
		m    api.Mesh
		want bool
	}{
		{api.Mesh{}, true},
		{meshOf(3), true},
		{meshOf(3, 0, 1, 2), true},
		{meshOf(3, 0, 1, 2, 2, 1, 0), true},
		{meshOf(3, 0, 1, 2, 1, 2, 0), false},
		{meshOf(4, 0, 1, 2, 0, 2, 3), true},
		{meshOf(4, 0, 1, 2, 2, 0, 3), false},
		{meshOf(4, 0, 1, 2, 0, 1, 3), false},
		{meshOf(2, 0, 0, 1), true}, // both directions, each once
		{meshOf(2, 0, 0, 1, 1, 1, 0), false},
		{meshOf(2, 0, 0, 0, 0, 0, 0, 1, 1, 1), true}, // no edges at all
		{meshOf(3, 0, 1, 2, 1, 1, 0), false},
		{solid(3, 0b101), true},
	} {
		if got := Coherent(q.m); got != q.want {
			t.Errorf("Coherent(%v) = %v", q.m.Tris, got)
		}
	}
	for want, m := range invalid() {
		if Coherent(m) {
			t.Errorf("a mesh with the error %d is coherent", want)
		}
	}
	bad := solid(1, 0)
	bad.Verts = append(bad.Verts, api.Vec{Z: -api.MaxCoord - 1})
	if Coherent(bad) {
		t.Error("a mesh with a vertex out of range is coherent")
	}
}

// P11.2, P11.5.
func TestOrient(t *testing.T) {
	for _, q := range []struct {
		verts   int
		m, want []api.Tri
		turned  int
		e       api.Errno
	}{
		{4, tris(0, 1, 2, 0, 1, 3), tris(0, 1, 2, 0, 3, 1), 1, api.OK},
		{0, nil, nil, 0, api.OK},
		{3, tris(2, 1, 0), tris(2, 1, 0), 0, api.OK},
		{3, tris(0, 1, 2, 0, 1, 2), tris(0, 1, 2, 0, 2, 1), 1, api.OK},
		{5, tris(0, 1, 2, 0, 1, 3, 0, 1, 4), nil, 0, api.ErrManifold},
		{5, tris(0, 1, 2, 1, 0, 3, 0, 1, 4), nil, 0, api.ErrManifold},
		{3, tris(0, 1, 2, 0, 2, 1, 0, 1, 2), nil, 0, api.ErrManifold},
		{3, tris(0, 0, 1, 0, 1, 2), nil, 0, api.ErrManifold},
		{2, tris(0, 0, 1), tris(0, 0, 1), 0, api.OK},
		{2, tris(0, 0, 0, 1, 1, 1), tris(0, 0, 0, 1, 1, 1), 0, api.OK},
		// The first triangle of the second shell stays, too, and the next one is reached only by later ones.
		{9, tris(0, 1, 2, 6, 7, 8, 3, 4, 5, 4, 6, 8, 3, 4, 6), tris(0, 1, 2, 6, 7, 8, 3, 4, 5, 4, 6, 8, 3, 6, 4), 1, api.OK},
		// A strip of five triangles whose ends are joined the other way: it has one side only.
		{5, tris(0, 1, 2, 1, 2, 3, 2, 3, 4, 3, 4, 0, 4, 0, 1), nil, 0, api.ErrManifold},
		// A strip of six triangles has two sides.
		{6, tris(0, 1, 2, 1, 2, 3, 2, 3, 4, 3, 4, 5, 4, 5, 0, 5, 0, 1), tris(0, 1, 2, 1, 3, 2, 2, 3, 4, 3, 5, 4, 4, 5, 0, 5, 1, 0), 3, api.OK},
	} {
		m := api.Mesh{Verts: meshOf(q.verts).Verts, Tris: q.m}
		want := api.Mesh{Tris: q.want}
		if q.e == api.OK {
			want.Verts = m.Verts
		}
		got, turned, e := Orient(m)
		if !mesh.Same(got, want) || turned != q.turned || e != q.e {
			t.Errorf("Orient(%v) = %v, %d, %d; want %v, %d, %d", q.m, got.Tris, turned, e, q.want, q.turned, q.e)
		}
	}
	for want, m := range invalid() {
		if got, turned, e := Orient(m); !mesh.Same(got, api.Mesh{}) || turned != 0 || e != want {
			t.Errorf("Orient: error %d; want %d", e, want)
		}
	}
}

// choices returns all coherent meshes that reversing triangles of m can give, where the first ones of shells are not reversed.
func choices(m api.Mesh) []api.Mesh {
	first := map[int]bool{}
	for _, shell := range topo.Shells(m) {
		first[shell[0]] = true
	}
	var l []api.Mesh
	for set := range uint(1) << len(m.Tris) {
		n, allowed := clone(m), true
		for i := range n.Tris {
			if set>>i&1 == 1 {
				n.Tris[i] = reverse(n.Tris[i])
				allowed = allowed && !first[i]
			}
		}
		// Reversing a triangle without two different edges gives the same mesh once more.
		if allowed && Coherent(n) && !slices.ContainsFunc(l, func(o api.Mesh) bool { return mesh.Same(n, o) }) {
			l = append(l, n)
		}
	}
	return l
}

// randomMesh returns a mesh with few triangles, in most of which few edges are used too often.
func randomMesh(random *rand.Rand) api.Mesh {
	m := meshOf(4 + random.Intn(5))
	if random.Intn(2) == 0 {
		m = solid(2, 0)
	}
	for range random.Intn(4) {
		m.Tris = append(m.Tris, api.Tri{A: random.Intn(len(m.Verts)), B: random.Intn(len(m.Verts)), C: random.Intn(len(m.Verts))})
	}
	for i := range m.Tris {
		if random.Intn(2) == 0 {
			m.Tris[i] = reverse(m.Tris[i])
		}
	}
	random.Shuffle(len(m.Tris), func(i, j int) { m.Tris[i], m.Tris[j] = m.Tris[j], m.Tris[i] })
	m.Tris = m.Tris[:min(len(m.Tris), 9)]
	return m
}

// P11.2, P11.4, P11.5.
func TestOrientAnyMesh(t *testing.T) {
	random := rand.New(rand.NewSource(11))
	found, none := 0, 0
	for range 600 {
		m := randomMesh(random)
		given := clone(m)
		got, turned, e := Orient(m)
		if !mesh.Same(m, given) {
			t.Fatalf("Orient has changed %v", given.Tris)
		}
		l := choices(m)
		if len(l) == 0 {
			none++
			if e != api.ErrManifold || turned != 0 || !mesh.Same(got, api.Mesh{}) {
				t.Errorf("Orient(%v) = %v, %d, %d; nothing is possible", m.Tris, got, turned, e)
			}
			continue
		}
		found++
		if len(l) > 1 || e != api.OK || !mesh.Same(got, l[0]) || turned != differences(m, got) {
			t.Errorf("Orient(%v) = %v, %d, %d; want one of %v", m.Tris, got.Tris, turned, e, l)
		}
		if again, turned, e := Orient(got); !mesh.Same(again, got) || turned != 0 || e != api.OK {
			t.Errorf("Orient of %v changes it: %v, %d, %d", got.Tris, again.Tris, turned, e)
		}
	}
	if found < 100 || none < 50 {
		t.Errorf("%d meshes can be oriented, %d can not", found, none)
	}
}

// differences returns the number of triangles in which two meshes differ.
func differences(m, n api.Mesh) int {
	count := 0
	for i := range m.Tris {
		if m.Tris[i] != n.Tris[i] {
			count++
		}
	}
	return count
}

// P11.2: the largest strip; and as many triangles as possible with a common edge.
func TestOrientLargeMesh(t *testing.T) {
	m := api.Mesh{Verts: make([]api.Vec, api.MaxVerts)}
	for i := range api.MaxTris {
		m.Tris = append(m.Tris, api.Tri{A: i, B: (i + 1) % api.MaxVerts, C: (i + 2) % api.MaxVerts})
	}
	got, turned, e := Orient(m)
	if turned != api.MaxTris/2 || e != api.OK || !Coherent(got) || got.Tris[0] != m.Tris[0] || got.Tris[1] != reverse(m.Tris[1]) {
		t.Errorf("Orient: %d, error %d", turned, e)
	}
	for i := range m.Tris {
		m.Tris[i] = api.Tri{A: 0, B: 1, C: i}
	}
	if _, _, e := Orient(m); e != api.ErrManifold {
		t.Errorf("Orient: error %d", e)
	}
}

// P11.3.
func TestOutward(t *testing.T) {
	flat := meshOf(3, 0, 1, 2, 0, 2, 1) // a volume of zero
	for _, q := range []struct {
		m, want  api.Mesh
		inverted int
		e        api.Errno
	}{
		{api.Mesh{}, api.Mesh{}, 0, api.OK},
		{flat, flat, 0, api.OK},
		{solid(1, 0), solid(1, 0), 0, api.OK},
		{solid(1, 1), solid(1, 0), 1, api.OK},
		{solid(4, 0b1010), solid(4, 0), 2, api.OK},
		{meshOf(2, 0, 0, 0, 0, 0, 1), meshOf(2, 0, 0, 0, 0, 0, 1), 0, api.OK},
		{meshOf(3, 0, 1, 2), api.Mesh{}, 0, api.ErrOpen},
		{meshOf(3, 0, 1, 2, 0, 1, 2), api.Mesh{}, 0, api.ErrOpen},
		{meshOf(3, 0, 1, 2, 0, 1, 2, 0, 2, 1, 0, 2, 1), api.Mesh{}, 0, api.ErrManifold},
	} {
		got, inverted, e := Outward(q.m)
		if !mesh.Same(got, q.want) || inverted != q.inverted || e != q.e {
			t.Errorf("Outward(%v) = %v, %d, %d; want %v, %d, %d", q.m.Tris, got, inverted, e, q.want, q.inverted, q.e)
		}
	}
	for want, m := range invalid() {
		if got, inverted, e := Outward(m); !mesh.Same(got, api.Mesh{}) || inverted != 0 || e != want {
			t.Errorf("Outward: error %d; want %d", e, want)
		}
	}
}

// P11.3, P11.4, P11.6: shells of several sizes whose triangles are mixed.
func TestOutwardShells(t *testing.T) {
	random := rand.New(rand.NewSource(12))
	for range 200 {
		count := 1 + random.Intn(8)
		inverted := uint(random.Intn(1 << count))
		m, right := solid(count, inverted), solid(count, 0)
		for i, v := range m.Verts {
			scale := 1 + i/4*random.Intn(1000)
			m.Verts[i] = api.Vec{X: v.X - 9, Y: v.Y*scale - 9, Z: v.Z*scale - 9}
		}
		mixed, want := clone(m), clone(m)
		for to, from := range random.Perm(len(m.Tris)) {
			mixed.Tris[to], want.Tris[to] = m.Tris[from], right.Tris[from]
		}
		given := clone(mixed)
		got, n, e := Outward(mixed)
		if e != api.OK || n != bits.OnesCount(inverted) || !mesh.Same(got, want) {
			t.Errorf("Outward(%v) = %v, %d, %d; want %v, %d", mixed.Tris, got.Tris, n, e, want.Tris, bits.OnesCount(inverted))
		}
		if !mesh.Same(mixed, given) {
			t.Fatalf("Outward has changed %v", given.Tris)
		}
		if again, n, e := Outward(got); !mesh.Same(again, got) || n != 0 || e != api.OK || !Coherent(got) {
			t.Errorf("Outward of %v changes it", got.Tris)
		}
	}
}
