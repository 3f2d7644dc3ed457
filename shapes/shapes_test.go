package shapes

import (
	"math"
	"math/rand"
	"slices"
	"testing"

	"additive/api"
	"additive/mesh"
	"additive/num"
	"additive/orient"
	"additive/planar"
	"additive/topo"
)

const edge = api.MaxCoord

func clone(m api.Mesh) api.Mesh {
	return api.Mesh{Verts: slices.Clone(m.Verts), Tris: slices.Clone(m.Tris)}
}

// vecs returns vectors whose coordinates are given in threes.
func vecs(coordinates ...int) []api.Vec {
	l := []api.Vec{}
	for i := 0; i < len(coordinates); i += 3 {
		l = append(l, api.Vec{X: coordinates[i], Y: coordinates[i+1], Z: coordinates[i+2]})
	}
	return l
}

// tris returns triangles whose indices are given in threes.
func tris(indices ...int) []api.Tri {
	l := []api.Tri{}
	for _, v := range vecs(indices...) {
		l = append(l, api.Tri{A: v.X, B: v.Y, C: v.Z})
	}
	return l
}

// pts returns points whose coordinates are given in pairs.
func pts(coordinates ...int) []api.Pt {
	l := []api.Pt{}
	for i := 0; i < len(coordinates); i += 2 {
		l = append(l, api.Pt{X: coordinates[i], Y: coordinates[i+1]})
	}
	return l
}

// polygon returns a convex base with n points: the vertices of a hull on a parabola and its mirror image.
func polygon(n int) []api.Pt {
	var l []api.Pt
	for i := range n {
		x := i - n/2
		y := x * x
		if i%2 == 1 {
			y = 3*n*n - x*x
		}
		l = append(l, api.Pt{X: 2*x + i%2, Y: y})
	}
	return planar.Hull(l)
}

// invalid are meshes that are not valid.
func invalid() []api.Mesh {
	return []api.Mesh{
		{Verts: make([]api.Vec, api.MaxVerts+1)},
		{Verts: vecs(0, 0, edge+1)},
		{Verts: vecs(0, 0, 0), Tris: tris(0, 0, 1)},
	}
}

// solid reports whether a mesh is one closed, coherent shell with this volume.
func solid(m api.Mesh, volume int) bool {
	return topo.Closed(m) && orient.Coherent(m) && len(topo.Shells(m)) == 1 && mesh.Volume6(m) == volume && volume > 0
}

// P13.1.
func TestBox(t *testing.T) {
	got, e := Box(api.Vec{}, api.Vec{X: 1, Y: 2, Z: 3})
	want := api.Mesh{
		Verts: vecs(0, 0, 0, 1, 0, 0, 0, 2, 0, 1, 2, 0, 0, 0, 3, 1, 0, 3, 0, 2, 3, 1, 2, 3),
		Tris:  tris(0, 2, 3, 0, 3, 1, 4, 5, 7, 4, 7, 6, 0, 1, 5, 0, 5, 4, 2, 6, 7, 2, 7, 3, 0, 4, 6, 0, 6, 2, 1, 3, 7, 1, 7, 5),
	}
	if !mesh.Same(got, want) || e != api.OK || !solid(got, 36) {
		t.Errorf("Box = %v, %d", got, e)
	}
	random := rand.New(rand.NewSource(13))
	for range 200 {
		at := api.Vec{X: random.Intn(200) - 100, Y: random.Intn(200) - 100, Z: random.Intn(200) - 100}
		size := api.Vec{X: 1 + random.Intn(50), Y: 1 + random.Intn(50), Z: 1 + random.Intn(50)}
		m, e := Box(at, size)
		low, high, _ := mesh.Box(m)
		far := api.Vec{X: at.X + size.X, Y: at.Y + size.Y, Z: at.Z + size.Z}
		if e != api.OK || low != at || high != far || !solid(m, 6*size.X*size.Y*size.Z) {
			t.Errorf("Box(%v, %v) = %v, %d", at, size, m, e)
		}
	}
	for _, q := range []struct {
		at, size api.Vec
		e        api.Errno
	}{
		{api.Vec{X: -edge, Y: -edge, Z: -edge}, api.Vec{X: 2 * edge, Y: 2 * edge, Z: 2 * edge}, api.OK},
		{api.Vec{X: edge - 1, Y: edge - 1, Z: edge - 1}, api.Vec{X: 1, Y: 1, Z: 1}, api.OK},
		{api.Vec{}, api.Vec{X: 0, Y: 1, Z: 1}, api.ErrArg},
		{api.Vec{}, api.Vec{X: 1, Y: 0, Z: 1}, api.ErrArg},
		{api.Vec{}, api.Vec{X: 1, Y: 1, Z: 0}, api.ErrArg},
		{api.Vec{X: edge + 1}, api.Vec{X: 1, Y: 1, Z: math.MinInt}, api.ErrArg},
		{api.Vec{}, api.Vec{X: edge + 1, Y: 1, Z: 1}, api.ErrRange},
		{api.Vec{Y: 1}, api.Vec{X: 1, Y: edge, Z: 1}, api.ErrRange},
		{api.Vec{Z: edge}, api.Vec{X: 1, Y: 1, Z: 1}, api.ErrRange},
		{api.Vec{X: -edge - 1}, api.Vec{X: 2, Y: 1, Z: 1}, api.ErrRange},
		{api.Vec{X: math.MaxInt}, api.Vec{X: math.MaxInt, Y: 1, Z: 1}, api.ErrRange},
		{api.Vec{Z: math.MinInt}, api.Vec{X: 1, Y: 1, Z: math.MaxInt}, api.ErrRange},
		{api.Vec{Y: math.MaxInt}, api.Vec{X: 1, Y: 1, Z: 1}, api.ErrRange},
	} {
		m, e := Box(q.at, q.size)
		if e != q.e || e != api.OK && !mesh.Same(m, api.Mesh{}) || e == api.OK && !solid(m, 6*q.size.X*q.size.Y*q.size.Z) {
			t.Errorf("Box(%v, %v): error %d; want %d", q.at, q.size, e, q.e)
		}
	}
}

// P13.2.
func TestPrismAndPyramid(t *testing.T) {
	corner := pts(0, 0, 2, 0, 0, 2)
	got, e := Prism(corner, 0, 1)
	want := api.Mesh{Verts: vecs(0, 0, 0, 2, 0, 0, 0, 2, 0, 0, 0, 1, 2, 0, 1, 0, 2, 1), Tris: tris(0, 2, 1, 3, 4, 5, 0, 1, 4, 0, 4, 3, 1, 2, 5, 1, 5, 4, 2, 0, 3, 2, 3, 5)}
	if !mesh.Same(got, want) || e != api.OK || !solid(got, 12) {
		t.Errorf("Prism = %v, %d", got, e)
	}
	got, e = Pyramid(corner, 0, api.Vec{Z: 3})
	want = api.Mesh{Verts: vecs(0, 0, 0, 2, 0, 0, 0, 2, 0, 0, 0, 3), Tris: tris(0, 2, 1, 0, 1, 3, 1, 2, 3, 2, 0, 3)}
	if !mesh.Same(got, want) || e != api.OK || !solid(got, 12) {
		t.Errorf("Pyramid = %v, %d", got, e)
	}
	square := pts(1, 1, 5, 1, 5, 4, 1, 4)
	if got, _ := Prism(square, -7, 2); !slices.Equal(got.Tris[:4], tris(0, 2, 1, 0, 3, 2, 4, 5, 6, 4, 6, 7)) || got.Verts[4] != (api.Vec{X: 1, Y: 1, Z: -5}) {
		t.Errorf("the prism over a square is %v", got)
	}
	random := rand.New(rand.NewSource(14))
	for n := 3; n <= 64; n++ {
		base := polygon(n)
		z, height := random.Intn(100)-50, 1+random.Intn(100)
		given := slices.Clone(base)
		prism, e := Prism(base, z, height)
		if e != api.OK || len(prism.Verts) != 2*n || len(prism.Tris) != 4*n-4 || !solid(prism, 3*planar.Area2(base)*height) {
			t.Errorf("Prism(%v, %d, %d) = %v, %d", base, z, height, prism, e)
		}
		apex := api.Vec{X: random.Intn(999) - 500, Y: random.Intn(999) - 500, Z: z + height}
		pyramid, e := Pyramid(base, z, apex)
		if e != api.OK || len(pyramid.Verts) != n+1 || len(pyramid.Tris) != 2*n-2 || !solid(pyramid, planar.Area2(base)*height) {
			t.Errorf("Pyramid(%v, %d, %v) = %v, %d", base, z, apex, pyramid, e)
		}
		if !slices.Equal(base, given) {
			t.Errorf("the base %v has been changed", given)
		}
	}
}

// P13.2: the errors, in their order.
func TestWrongPrismsAndPyramids(t *testing.T) {
	corner := pts(0, 0, 2, 0, 0, 2)
	for _, q := range []struct {
		base      []api.Pt
		z, height int
		e         api.Errno
	}{
		{corner, -edge, 2 * edge, api.OK},
		{corner, edge - 1, 1, api.OK},
		{pts(-edge, -edge, edge, -edge, edge, edge), 0, 1, api.OK},
		{nil, 0, 1, api.ErrArg},
		{pts(0, 0, 2, 0), 0, 1, api.ErrArg},
		{make([]api.Pt, 65), edge + 1, 1, api.ErrArg},
		{corner, edge + 1, 0, api.ErrArg},
		{corner, 0, 0, api.ErrArg},
		{corner, 0, -1, api.ErrArg},
		{corner, math.MinInt, math.MinInt, api.ErrArg},
		{corner, edge, 1, api.ErrRange},
		{corner, -edge - 1, 2, api.ErrRange},
		{corner, math.MaxInt, math.MaxInt, api.ErrRange},
		{corner, math.MinInt, math.MaxInt, api.ErrRange},
		{pts(0, 0, edge+1, 0, 0, 2), 0, 1, api.ErrRange},
		{pts(0, 0, 2, 0, 0, math.MinInt), 0, 1, api.ErrRange},
		{pts(0, edge+1, 2, edge+1, 1, edge+1), 0, 1, api.ErrRange}, // neither in range nor convex
		{pts(0, 0, 0, 2, 2, 0), 0, 1, api.ErrArg},                  // clockwise
		{pts(0, 0, 1, 0, 2, 0), 0, 1, api.ErrArg},                  // on a line
		{pts(0, 0, 2, 0, 4, 0, 0, 2), 0, 1, api.ErrArg},            // a corner that is none
		{pts(0, 0, 4, 0, 1, 1, 0, 4), 0, 1, api.ErrArg},            // a notch
		{pts(0, 0, 4, 0, 0, 4, 0, 0), 0, 1, api.ErrArg},            // the first point again
		{pts(0, 3, -2, -3, 3, 1, -3, 1, 2, -3), 0, 1, api.ErrArg},  // a star, whose corners all turn left
		{make([]api.Pt, 3), 0, 1, api.ErrArg},
		{make([]api.Pt, 64), 0, 1, api.ErrArg},
	} {
		m, e := Prism(q.base, q.z, q.height)
		if e != q.e || e != api.OK && !mesh.Same(m, api.Mesh{}) {
			t.Errorf("Prism(%v, %d, %d): error %d; want %d", q.base, q.z, q.height, e, q.e)
		}
		top, overflow := num.Add(q.z, q.height)
		if overflow != api.OK {
			continue
		}
		m, e = Pyramid(q.base, q.z, api.Vec{Z: top})
		if e != q.e || e != api.OK && !mesh.Same(m, api.Mesh{}) {
			t.Errorf("Pyramid(%v, %d, %d): error %d; want %d", q.base, q.z, top, e, q.e)
		}
	}
	for apex, want := range map[api.Vec]api.Errno{{X: edge, Y: -edge, Z: 1}: api.OK, {X: edge + 1, Z: 1}: api.ErrRange, {Y: math.MinInt, Z: math.MaxInt}: api.ErrRange, {X: edge + 1, Z: 0}: api.ErrArg, {Z: math.MinInt}: api.ErrArg} {
		if _, e := Pyramid(corner, 0, apex); e != want {
			t.Errorf("Pyramid with the apex %v: error %d; want %d", apex, e, want)
		}
	}
}

// randomMesh returns a valid mesh with small coordinates.
func randomMesh(random *rand.Rand, most int) api.Mesh {
	m := api.Mesh{}
	for range 1 + random.Intn(9) {
		m.Verts = append(m.Verts, api.Vec{X: random.Intn(2*most+1) - most, Y: random.Intn(2*most+1) - most, Z: random.Intn(2*most+1) - most})
	}
	for range random.Intn(9) {
		m.Tris = append(m.Tris, api.Tri{A: random.Intn(len(m.Verts)), B: random.Intn(len(m.Verts)), C: random.Intn(len(m.Verts))})
	}
	return m
}

// P13.3, P13.4, P13.5.
func TestMoveTurnMirror(t *testing.T) {
	random := rand.New(rand.NewSource(15))
	for range 300 {
		m := randomMesh(random, 1000)
		given := clone(m)
		d := api.Vec{X: random.Intn(99) - 50, Y: random.Intn(99) - 50, Z: random.Intn(99) - 50}
		n := random.Intn(21) - 10
		moved, eMove := Move(m, d)
		turned, eTurn := Turn(m, n)
		mirrored, eMirror := Mirror(m)
		if eMove != api.OK || eTurn != api.OK || eMirror != api.OK || !mesh.Same(m, given) {
			t.Fatalf("errors %d, %d, %d for %v", eMove, eTurn, eMirror, m)
		}
		for i, v := range m.Verts {
			if moved.Verts[i] != (api.Vec{X: v.X + d.X, Y: v.Y + d.Y, Z: v.Z + d.Z}) {
				t.Errorf("Move of %v by %v is %v", v, d, moved.Verts[i])
			}
			want := [4]api.Vec{v, {X: -v.Y, Y: v.X, Z: v.Z}, {X: -v.X, Y: -v.Y, Z: v.Z}, {X: v.Y, Y: -v.X, Z: v.Z}}[(n+12)%4]
			if turned.Verts[i] != want {
				t.Errorf("Turn of %v by %d is %v", v, n, turned.Verts[i])
			}
			if mirrored.Verts[i] != (api.Vec{X: -v.X, Y: v.Y, Z: v.Z}) {
				t.Errorf("Mirror of %v is %v", v, mirrored.Verts[i])
			}
		}
		for i, tri := range m.Tris {
			if moved.Tris[i] != tri || turned.Tris[i] != tri || mirrored.Tris[i] != (api.Tri{A: tri.A, B: tri.C, C: tri.B}) {
				t.Errorf("the triangle %v becomes %v, %v and %v", tri, moved.Tris[i], turned.Tris[i], mirrored.Tris[i])
			}
		}
		back, _ := Move(moved, api.Vec{X: -d.X, Y: -d.Y, Z: -d.Z})
		around, _ := Turn(turned, 4-n)
		twice, _ := Mirror(mirrored)
		if !mesh.Same(back, m) || !mesh.Same(around, m) || !mesh.Same(twice, m) {
			t.Errorf("%v does not come back: %v, %v, %v", m, back, around, twice)
		}
	}
	for _, n := range []int{math.MinInt, math.MaxInt} {
		got, _ := Turn(api.Mesh{Verts: vecs(1, 2, 3)}, n)
		if want := (map[int]api.Vec{math.MinInt: {X: 1, Y: 2, Z: 3}, math.MaxInt: {X: 2, Y: -1, Z: 3}})[n]; got.Verts[0] != want {
			t.Errorf("Turn by %d is %v", n, got.Verts)
		}
	}
	box, _ := Box(api.Vec{X: 3, Y: 4, Z: 5}, api.Vec{X: 2, Y: 3, Z: 4})
	if m, _ := Mirror(box); !solid(m, 144) {
		t.Error("a mirrored box is not solid")
	}
}

// P13.3, P13.4, P13.5, P13.6: the errors.
func TestWrongTransformations(t *testing.T) {
	m := api.Mesh{Verts: vecs(-edge, 0, edge, edge-1, 5, 5)}
	for _, q := range []struct {
		m api.Mesh
		d api.Vec
		e api.Errno
	}{
		{m, api.Vec{X: 1}, api.OK}, {m, api.Vec{X: 2}, api.ErrRange}, {m, api.Vec{X: -1}, api.ErrRange}, {m, api.Vec{Z: 1}, api.ErrRange},
		{m, api.Vec{Y: edge - 5}, api.OK}, {m, api.Vec{Y: edge - 4}, api.ErrRange}, {m, api.Vec{Y: -edge}, api.OK}, {m, api.Vec{Y: -edge - 1}, api.ErrRange},
		{m, api.Vec{Y: math.MaxInt}, api.ErrRange}, {m, api.Vec{Z: math.MaxInt}, api.ErrRange}, {m, api.Vec{X: math.MinInt}, api.ErrRange},
		{api.Mesh{}, api.Vec{X: math.MaxInt, Y: math.MinInt}, api.OK}, {api.Mesh{Verts: vecs(5, 5, 5)}, api.Vec{X: math.MaxInt}, api.ErrRange},
		{api.Mesh{Verts: vecs(5, 5, 5)}, api.Vec{Y: math.MaxInt}, api.ErrRange}, {api.Mesh{Verts: vecs(5, 5, 5)}, api.Vec{Z: math.MaxInt}, api.ErrRange},
	} {
		if got, e := Move(q.m, q.d); e != q.e || e != api.OK && !mesh.Same(got, api.Mesh{}) {
			t.Errorf("Move(%v, %v): error %d; want %d", q.m, q.d, e, q.e)
		}
	}
	for _, bad := range invalid() {
		moved, eMove := Move(bad, api.Vec{X: math.MaxInt})
		turned, eTurn := Turn(bad, 1)
		mirrored, eMirror := Mirror(bad)
		scaled, eScale := Scale(bad, 65536, 1)
		for _, got := range []api.Mesh{moved, turned, mirrored, scaled} {
			if !mesh.Same(got, api.Mesh{}) {
				t.Errorf("a mesh that is not valid gives %v", got)
			}
		}
		if eMove != api.ErrArg || eTurn != api.ErrArg || eMirror != api.ErrArg || eScale != api.ErrArg {
			t.Errorf("errors %d, %d, %d, %d", eMove, eTurn, eMirror, eScale)
		}
	}
}

// P13.6.
func TestScale(t *testing.T) {
	m := api.Mesh{Verts: vecs(1, -1, 3, -3, 5, -5), Tris: tris(0, 1, 0)}
	if got, e := Scale(m, 1, 2); e != api.OK || !slices.Equal(got.Verts, vecs(1, 0, 2, -1, 3, -2)) || !slices.Equal(got.Tris, m.Tris) {
		t.Errorf("Scale by 1/2 = %v, %d", got, e)
	}
	for _, q := range []struct {
		m        api.Mesh
		num, den int
		e        api.Errno
	}{
		{m, 1, 1, api.OK}, {m, 65536, 65536, api.OK}, {m, 1, 65536, api.OK}, {m, 13107, 1, api.OK}, {m, 13108, 1, api.ErrRange}, {m, 65536, 1, api.ErrRange},
		{m, 0, 1, api.ErrArg}, {m, 1, 0, api.ErrArg}, {m, -1, -1, api.ErrArg}, {m, 65537, 1, api.ErrArg}, {m, 1, 65537, api.ErrArg}, {m, math.MaxInt, math.MinInt, api.ErrArg},
		{api.Mesh{Verts: vecs(edge, -edge, 0)}, 65536, 65536, api.OK}, {api.Mesh{Verts: vecs(edge, -edge, 0)}, 65536, 65535, api.ErrRange},
		{api.Mesh{Verts: vecs(0, -edge, 0)}, 65536, 65535, api.ErrRange}, {api.Mesh{}, 65536, 1, api.OK},
	} {
		if got, e := Scale(q.m, q.num, q.den); e != q.e || e != api.OK && !mesh.Same(got, api.Mesh{}) {
			t.Errorf("Scale(%v, %d, %d): error %d; want %d", q.m, q.num, q.den, e, q.e)
		}
	}
	random := rand.New(rand.NewSource(16))
	for range 300 {
		m := randomMesh(random, 60)
		up, down := 1+random.Intn(1000), 1+random.Intn(1000)
		got, e := Scale(m, up, down)
		if e != api.OK {
			t.Fatalf("Scale(%v, %d, %d): error %d", m, up, down, e)
		}
		for i, v := range m.Verts {
			for k, c := range [3]int{v.X, v.Y, v.Z} {
				w := got.Verts[i]
				// The nearest integer is at most half away, and of two it is the greater one.
				if rest := 2 * (c*up - [3]int{w.X, w.Y, w.Z}[k]*down); rest < -down || rest >= down {
					t.Errorf("%d * %d / %d becomes %v", c, up, down, w)
				}
			}
		}
	}
}
