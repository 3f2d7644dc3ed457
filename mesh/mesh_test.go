package mesh

import (
	"math"
	"math/big"
	"math/rand"
	"slices"
	"testing"

	"additive/api"
	"additive/vec"
)

const edge = api.MaxCoord

// tetrahedron has the volume 1/6.
func tetrahedron() api.Mesh {
	return api.Mesh{
		Verts: []api.Vec{{}, {X: 1}, {Y: 1}, {Z: 1}},
		Tris:  []api.Tri{{A: 0, B: 2, C: 1}, {A: 0, B: 1, C: 3}, {A: 0, B: 3, C: 2}, {A: 1, B: 2, C: 3}},
	}
}

// large returns a valid mesh with so many vertices and triangles.
func large(verts, tris int) api.Mesh {
	m := api.Mesh{Verts: make([]api.Vec, verts), Tris: make([]api.Tri, tris)}
	for i := range m.Verts {
		m.Verts[i] = api.Vec{X: i, Y: 2 * i, Z: -i}
	}
	for i := range m.Tris {
		m.Tris[i] = api.Tri{A: i % verts, B: (i + 1) % verts, C: (i + 2) % verts}
	}
	return m
}

// clone returns a mesh that shares no memory with m.
func clone(m api.Mesh) api.Mesh {
	return api.Mesh{Verts: slices.Clone(m.Verts), Tris: slices.Clone(m.Tris)}
}

// equal compares meshes in another way than Same.
func equal(a, b api.Mesh) bool {
	return slices.Equal(a.Verts, b.Verts) && slices.Equal(a.Tris, b.Tris)
}

// change returns a tetrahedron after a change.
func change(f func(m *api.Mesh)) api.Mesh {
	m := tetrahedron()
	f(&m)
	return m
}

// flawed is a mesh that is not valid, and its error.
type flawed struct {
	m api.Mesh
	e api.Errno
}

// invalid returns meshes that are not valid: each with one flaw, and some with two, of which the first one counts.
func invalid() []flawed {
	l := []flawed{
		{large(api.MaxVerts+1, 1), api.ErrLimit},
		{large(3, api.MaxTris+1), api.ErrLimit},
		{api.Mesh{Tris: []api.Tri{{}}}, api.ErrArg},
		{api.Mesh{Verts: make([]api.Vec, api.MaxVerts+1)}, api.ErrLimit},
		{api.Mesh{Tris: make([]api.Tri, api.MaxTris+1)}, api.ErrLimit},
	}
	both := large(api.MaxVerts+1, 1)
	both.Verts[0].X = edge + 1
	both.Tris[0].A = -1
	l = append(l, flawed{both, api.ErrLimit})
	for _, n := range []int{edge + 1, -edge - 1, math.MaxInt, math.MinInt} {
		l = append(l,
			flawed{change(func(m *api.Mesh) { m.Verts[0].X = n }), api.ErrRange},
			flawed{change(func(m *api.Mesh) { m.Verts[1].Y = n }), api.ErrRange},
			flawed{change(func(m *api.Mesh) { m.Verts[3].Z = n }), api.ErrRange},
			flawed{change(func(m *api.Mesh) { m.Verts[3].Z, m.Tris[0].A = n, 4 }), api.ErrRange},
		)
	}
	for _, n := range []int{-1, 4, math.MinInt, math.MaxInt} {
		l = append(l,
			flawed{change(func(m *api.Mesh) { m.Tris[0].A = n }), api.ErrArg},
			flawed{change(func(m *api.Mesh) { m.Tris[1].B = n }), api.ErrArg},
			flawed{change(func(m *api.Mesh) { m.Tris[3].C = n }), api.ErrArg},
		)
	}
	return l
}

// P7.1.
func TestCheck(t *testing.T) {
	for _, m := range []api.Mesh{
		{}, tetrahedron(), large(api.MaxVerts, api.MaxTris), {Verts: []api.Vec{{X: 7}}},
		{Verts: []api.Vec{{X: edge, Y: -edge, Z: edge}}, Tris: []api.Tri{{}, {}}},
		change(func(m *api.Mesh) { m.Tris[0] = m.Tris[1] }),
		change(func(m *api.Mesh) { m.Verts[0] = m.Verts[1] }),
	} {
		if e := Check(m); e != api.OK {
			t.Errorf("Check of %d vertices and %d triangles: error %d", len(m.Verts), len(m.Tris), e)
		}
	}
	for _, q := range invalid() {
		if e := Check(q.m); e != q.e {
			t.Errorf("Check of %d vertices and %d triangles: error %d; want %d", len(q.m.Verts), len(q.m.Tris), e, q.e)
		}
	}
}

// P7.1: what lies behind the end of a slice does not count.
func TestCheckUsesTheLength(t *testing.T) {
	m := tetrahedron()
	m.Verts = append(m.Verts, api.Vec{X: math.MaxInt})[:4]
	m.Tris = append(m.Tris, api.Tri{A: 99})[:4]
	if e := Check(m); e != api.OK {
		t.Errorf("Check: error %d", e)
	}
	m.Tris[0].A = 4
	if e := Check(m); e != api.ErrArg {
		t.Errorf("Check of a mesh with the index 4: error %d", e)
	}
}

// P7.2.
func TestCorners(t *testing.T) {
	m := tetrahedron()
	for i, tri := range m.Tris {
		a, b, c, ok := Corners(m, i)
		if a != m.Verts[tri.A] || b != m.Verts[tri.B] || c != m.Verts[tri.C] || !ok {
			t.Errorf("Corners of triangle %d are %v, %v, %v, %v", i, a, b, c, ok)
		}
	}
	none := func(m api.Mesh, i int) {
		t.Helper()
		a, b, c, ok := Corners(m, i)
		if a != (api.Vec{}) || b != (api.Vec{}) || c != (api.Vec{}) || ok {
			t.Errorf("Corners of triangle %d are %v, %v, %v, %v", i, a, b, c, ok)
		}
	}
	for _, i := range []int{math.MinInt, -1, 4, 5, math.MaxInt} {
		none(m, i)
	}
	none(api.Mesh{}, 0)
	for _, q := range invalid() {
		none(q.m, 0)
		none(q.m, 2)
		none(q.m, -1)
	}
}

// P7.3.
func TestNormal(t *testing.T) {
	m := tetrahedron()
	for i, want := range []api.Vec{{Z: -1}, {Y: -1}, {X: -1}, {X: 1, Y: 1, Z: 1}} {
		if got := Normal(m, i); got != want {
			t.Errorf("Normal of triangle %d is %v; want %v", i, got, want)
		}
	}
	far := api.Mesh{
		Verts: []api.Vec{{X: 3, Y: 5, Z: 7}, {X: 4, Y: 7, Z: 10}, {X: 1, Y: 9, Z: 8}, {X: -edge, Y: -edge, Z: 5}, {X: edge, Y: -edge, Z: 5}, {X: edge, Y: edge, Z: 5}},
		Tris:  []api.Tri{{A: 0, B: 1, C: 2}, {A: 3, B: 4, C: 5}, {A: 3, B: 5, C: 4}, {A: 2, B: 2, C: 1}},
	}
	for i, want := range []api.Vec{{X: -10, Y: -7, Z: 8}, {Z: 1 << 34}, {Z: -1 << 34}, {}} {
		if got := Normal(far, i); got != want {
			t.Errorf("Normal of triangle %d is %v; want %v", i, got, want)
		}
	}
	for _, i := range []int{math.MinInt, -1, 4, math.MaxInt} {
		if got := Normal(m, i); got != (api.Vec{}) {
			t.Errorf("Normal of triangle %d is %v", i, got)
		}
	}
	for _, q := range invalid() {
		if got := Normal(q.m, 2); got != (api.Vec{}) {
			t.Errorf("Normal of an invalid mesh is %v", got)
		}
	}
}

// P7.4.
func TestBox(t *testing.T) {
	m := tetrahedron()
	m.Verts = append(m.Verts, api.Vec{X: -5, Y: 9, Z: 4}) // not used
	low, high, ok := Box(m)
	if low != (api.Vec{X: -5}) || high != (api.Vec{X: 1, Y: 9, Z: 4}) || !ok {
		t.Errorf("Box is %v, %v, %v", low, high, ok)
	}
	point := api.Vec{X: 2, Y: 3, Z: 4}
	if low, high, ok := Box(api.Mesh{Verts: []api.Vec{point}}); low != point || high != point || !ok {
		t.Errorf("Box of one vertex is %v, %v, %v", low, high, ok)
	}
	for _, q := range append(invalid(), flawed{}) {
		if low, high, ok := Box(q.m); low != (api.Vec{}) || high != (api.Vec{}) || ok {
			t.Errorf("Box of an invalid or empty mesh is %v, %v, %v", low, high, ok)
		}
	}
}

// P7.5.
func TestVolume6(t *testing.T) {
	moved := tetrahedron()
	for i := range moved.Verts {
		v := moved.Verts[i]
		moved.Verts[i] = api.Vec{X: 100 + 2*v.X, Y: -50 + 3*v.Y, Z: 7 + 5*v.Z}
	}
	open := tetrahedron()
	open.Tris = open.Tris[3:]
	for _, q := range []struct {
		m    api.Mesh
		want int
	}{
		{tetrahedron(), 1}, {moved, 30}, {Reverse(tetrahedron()), -1}, {api.Mesh{}, 0}, {api.Mesh{Verts: []api.Vec{{X: 3}}}, 0}, {open, 1},
	} {
		if got := Volume6(q.m); got != q.want {
			t.Errorf("Volume6 = %d; want %d", got, q.want)
		}
	}
	for _, q := range invalid() {
		if got := Volume6(q.m); got != 0 {
			t.Errorf("Volume6 of an invalid mesh is %d", got)
		}
	}
}

// P7.5: the greatest possible sum fits.
func TestGreatestVolume6(t *testing.T) {
	m := api.Mesh{
		Verts: []api.Vec{{X: edge, Y: edge, Z: edge}, {X: -edge, Y: edge, Z: -edge}, {X: -edge, Y: -edge, Z: edge}},
		Tris:  make([]api.Tri, api.MaxTris),
	}
	for i := range m.Tris {
		m.Tris[i] = api.Tri{A: 0, B: 1, C: 2}
	}
	if got := Volume6(m); got != 1<<62 {
		t.Errorf("Volume6 = %d", got)
	}
	if got := Volume6(Reverse(m)); got != -1<<62 {
		t.Errorf("Volume6 of the reversed mesh = %d", got)
	}
}

// randomMesh returns a valid mesh, open or closed, whose triangles may be of any kind.
func randomMesh(random *rand.Rand) api.Mesh {
	m := api.Mesh{Verts: make([]api.Vec, 1+random.Intn(9)), Tris: make([]api.Tri, random.Intn(20))}
	most := [2]int{5, edge}[random.Intn(2)]
	coordinate := func() int { return random.Intn(2*most+1) - most }
	for i := range m.Verts {
		m.Verts[i] = api.Vec{X: coordinate(), Y: coordinate(), Z: coordinate()}
	}
	for i := range m.Tris {
		m.Tris[i] = api.Tri{A: random.Intn(len(m.Verts)), B: random.Intn(len(m.Verts)), C: random.Intn(len(m.Verts))}
	}
	return m
}

// P7.5, P7.6, P7.7: the consequences of the chapter.
func TestVolumesOfResults(t *testing.T) {
	random := rand.New(rand.NewSource(9))
	for range 500 {
		m, n := randomMesh(random), randomMesh(random)
		want := new(big.Int)
		for _, tri := range m.Tris {
			want.Add(want, big.NewInt(int64(vec.Det(m.Verts[tri.A], m.Verts[tri.B], m.Verts[tri.C]))))
		}
		volume := Volume6(m)
		if int64(volume) != want.Int64() {
			t.Errorf("Volume6 = %d; want %v", volume, want)
		}
		if got := Volume6(Reverse(m)); got != -volume {
			t.Errorf("Volume6 of the reversed mesh = %d; want %d", got, -volume)
		}
		if !equal(Reverse(Reverse(m)), m) {
			t.Errorf("Reverse of Reverse of %v", m)
		}
		joined, e := Join(m, n)
		if got := Volume6(joined); got != volume+Volume6(n) || e != api.OK {
			t.Errorf("Volume6 of the joined mesh = %d; want %d", got, volume+Volume6(n))
		}
	}
}

// P7.6.
func TestReverse(t *testing.T) {
	m := tetrahedron()
	want := api.Mesh{Verts: m.Verts, Tris: []api.Tri{{A: 0, B: 1, C: 2}, {A: 0, B: 3, C: 1}, {A: 0, B: 2, C: 3}, {A: 1, B: 3, C: 2}}}
	got := Reverse(m)
	if !equal(got, want) || !equal(m, tetrahedron()) {
		t.Errorf("Reverse = %v; want %v", got, want)
	}
	got.Verts[0].X, got.Tris[0].A = 99, 3
	if !equal(m, tetrahedron()) {
		t.Error("the reversed mesh shares memory with the other one")
	}
	if got := Reverse(api.Mesh{}); !equal(got, api.Mesh{}) {
		t.Errorf("Reverse of the empty mesh = %v", got)
	}
	for _, q := range invalid() {
		if got := Reverse(q.m); len(got.Verts) != 0 || len(got.Tris) != 0 {
			t.Errorf("Reverse of an invalid mesh has %d vertices and %d triangles", len(got.Verts), len(got.Tris))
		}
	}
}

// P7.7.
func TestJoin(t *testing.T) {
	m := tetrahedron()
	n := api.Mesh{Verts: []api.Vec{{X: 5}, {Y: 6}}, Tris: []api.Tri{{A: 0, B: 1, C: 1}, {A: 1, B: 0, C: 0}}}
	want := api.Mesh{
		Verts: []api.Vec{{}, {X: 1}, {Y: 1}, {Z: 1}, {X: 5}, {Y: 6}},
		Tris:  []api.Tri{{A: 0, B: 2, C: 1}, {A: 0, B: 1, C: 3}, {A: 0, B: 3, C: 2}, {A: 1, B: 2, C: 3}, {A: 4, B: 5, C: 5}, {A: 5, B: 4, C: 4}},
	}
	// Room behind the ends must stay as it is.
	m.Verts = append(m.Verts, api.Vec{X: 77})[:4]
	m.Tris = append(m.Tris, api.Tri{A: 77})[:4]
	got, e := Join(m, n)
	if !equal(got, want) || e != api.OK {
		t.Errorf("Join = %v, %d; want %v", got, e, want)
	}
	if m.Verts[:5][4].X != 77 || m.Tris[:5][4].A != 77 {
		t.Error("Join has changed what lies behind the end of a slice")
	}
	for i := range got.Verts {
		got.Verts[i] = api.Vec{X: 99}
	}
	for i := range got.Tris {
		got.Tris[i] = api.Tri{A: 99}
	}
	if !equal(m, tetrahedron()) || n.Verts[0].X != 5 || n.Tris[0].B != 1 {
		t.Error("the joined mesh shares memory with its parts")
	}
	for _, q := range [][2]api.Mesh{{m, {}}, {{}, m}} {
		if got, e := Join(q[0], q[1]); !equal(got, tetrahedron()) || e != api.OK {
			t.Errorf("Join with the empty mesh = %v, %d", got, e)
		}
	}
}

// P7.7: the errors, and their order.
func TestJoinErrors(t *testing.T) {
	full := large(api.MaxVerts, api.MaxTris)
	for _, q := range []struct {
		a, b api.Mesh
		e    api.Errno
	}{
		{large(api.MaxVerts-4, api.MaxTris-4), tetrahedron(), api.OK},
		{tetrahedron(), large(api.MaxVerts-4, api.MaxTris-4), api.OK},
		{full, api.Mesh{}, api.OK},
		{large(api.MaxVerts-3, 1), tetrahedron(), api.ErrLimit},
		{tetrahedron(), large(api.MaxVerts-3, 1), api.ErrLimit},
		{large(9, api.MaxTris-3), tetrahedron(), api.ErrLimit},
		{tetrahedron(), large(9, api.MaxTris-3), api.ErrLimit},
		{full, full, api.ErrLimit},
	} {
		got, e := Join(q.a, q.b)
		if e != q.e || e != api.OK && len(got.Verts)+len(got.Tris) != 0 || e == api.OK && len(got.Verts) != len(q.a.Verts)+len(q.b.Verts) {
			t.Errorf("Join: %d vertices, error %d; want error %d", len(got.Verts), e, q.e)
		}
	}
	for _, q := range invalid() {
		for _, pair := range [][2]api.Mesh{{q.m, tetrahedron()}, {tetrahedron(), q.m}, {q.m, {}}, {full, q.m}, {q.m, full}, {q.m, q.m}} {
			if got, e := Join(pair[0], pair[1]); e != api.ErrArg || len(got.Verts)+len(got.Tris) != 0 {
				t.Errorf("Join with an invalid mesh: error %d", e)
			}
		}
	}
}

// P7.8.
func TestSame(t *testing.T) {
	m := tetrahedron()
	if !Same(m, tetrahedron()) || !Same(api.Mesh{}, api.Mesh{Verts: []api.Vec{}, Tris: []api.Tri{}}) {
		t.Error("equal meshes are not the same")
	}
	for _, other := range []api.Mesh{
		{}, {Verts: m.Verts}, {Tris: m.Tris}, Reverse(m),
		{Verts: m.Verts[:3], Tris: m.Tris}, {Verts: m.Verts, Tris: m.Tris[:3]},
		{Verts: append(clone(m).Verts, api.Vec{}), Tris: m.Tris}, {Verts: m.Verts, Tris: append(clone(m).Tris, api.Tri{})},
		change(func(m *api.Mesh) { m.Verts[0].X = 1 }),
		change(func(m *api.Mesh) { m.Verts[2].Y = 2 }),
		change(func(m *api.Mesh) { m.Verts[3].Z = 0 }),
		change(func(m *api.Mesh) { m.Tris[0].A = 3 }),
		change(func(m *api.Mesh) { m.Tris[2].B = 1 }),
		change(func(m *api.Mesh) { m.Tris[3].C = 0 }),
		change(func(m *api.Mesh) { m.Tris[0], m.Tris[1] = m.Tris[1], m.Tris[0] }),
	} {
		if Same(m, other) || Same(other, m) {
			t.Errorf("%v is the same as a tetrahedron", other)
		}
	}
	for _, q := range invalid() {
		if !Same(q.m, clone(q.m)) || Same(q.m, m) || Same(m, q.m) {
			t.Errorf("Same of an invalid mesh with %d vertices and %d triangles", len(q.m.Verts), len(q.m.Tris))
		}
	}
}

// Arguments are not changed.
func TestArgumentsAreKept(t *testing.T) {
	random := rand.New(rand.NewSource(10))
	for range 100 {
		m, n := randomMesh(random), randomMesh(random)
		givenM, givenN := clone(m), clone(n)
		Check(m)
		Corners(m, 0)
		Normal(m, 0)
		Box(m)
		Volume6(m)
		Reverse(m)
		Join(m, n)
		Same(m, n)
		if !equal(m, givenM) || !equal(n, givenN) {
			t.Errorf("%v or %v has been changed", givenM, givenN)
		}
	}
}
