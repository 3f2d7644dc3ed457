package repair

import (
	"math/rand"
	"slices"
	"testing"

	"additive/api"
	"additive/holes"
	"additive/mesh"
	"additive/orient"
	"additive/shapes"
	"additive/topo"
	"additive/weld"
)

func clone(m api.Mesh) api.Mesh {
	return api.Mesh{Verts: slices.Clone(m.Verts), Tris: slices.Clone(m.Tris)}
}

// tris returns triangles whose indices are given in threes.
func tris(indices ...int) []api.Tri {
	l := []api.Tri{}
	for i := 0; i < len(indices); i += 3 {
		l = append(l, api.Tri{A: indices[i], B: indices[i+1], C: indices[i+2]})
	}
	return l
}

// box returns a box whose least corner has three times the coordinate at.
func box(at, x, y, z int) api.Mesh {
	m, _ := shapes.Box(api.Vec{X: at, Y: at, Z: at}, api.Vec{X: x, Y: y, Z: z})
	return m
}

func join(l ...api.Mesh) api.Mesh {
	var m api.Mesh
	for _, part := range l {
		m, _ = mesh.Join(m, part)
	}
	return m
}

func without(m api.Mesh, i int) api.Mesh {
	return api.Mesh{Verts: m.Verts, Tris: slices.Delete(slices.Clone(m.Tris), i, i+1)}
}

func with(m api.Mesh, indices ...int) api.Mesh {
	return api.Mesh{Verts: m.Verts, Tris: slices.Concat(m.Tris, tris(indices...))}
}

func reverse(t api.Tri) api.Tri {
	return api.Tri{A: t.A, B: t.C, C: t.B}
}

// P14.1.
func TestCheck(t *testing.T) {
	b := box(0, 2, 3, 4)
	flat := api.Mesh{Verts: []api.Vec{{}, {X: 1}, {Y: 1}}, Tris: tris(0, 1, 2, 0, 2, 1)}
	thin := api.Mesh{Verts: []api.Vec{{}, {X: 1}, {X: 2}}, Tris: tris(0, 1, 2, 0, 2, 1)}
	for i, q := range []struct {
		m api.Mesh
		e api.Errno
	}{
		{api.Mesh{}, api.OK},
		{b, api.OK},
		{join(b, box(9, 1, 1, 1)), api.OK},
		{flat, api.OK}, // its volume is not negative
		{api.Mesh{Verts: []api.Vec{{}, {}, {X: 9}}}, api.OK},
		{api.Mesh{Verts: flat.Verts, Tris: tris(0, 1, 2)}, api.ErrOpen},
		{without(b, 3), api.ErrOpen},
		{join(b, b), api.OK},
		{with(b, 0, 2, 3, 0, 3, 2), api.ErrManifold},
		{api.Mesh{Verts: b.Verts, Tris: slices.Concat(b.Tris, b.Tris)}, api.ErrManifold},
		{thin, api.ErrArg},
		{api.Mesh{Verts: flat.Verts, Tris: tris(0, 0, 1)}, api.ErrArg},
		{mesh.Reverse(b), api.ErrArg},
		{join(b, mesh.Reverse(box(9, 1, 1, 1))), api.ErrArg},
		{api.Mesh{Verts: thin.Verts, Tris: tris(0, 1, 2)}, api.ErrOpen},                     // degenerate, too
		{with(mesh.Reverse(b), 0, 2, 3, 0, 3, 2), api.ErrManifold},                          // inside out, too
		{api.Mesh{Verts: b.Verts, Tris: slices.Concat(b.Tris, tris(0, 1, 2))}, api.ErrOpen}, // not coherent, too
		{api.Mesh{Verts: make([]api.Vec, api.MaxVerts+1), Tris: tris(0, 0, 1)}, api.ErrLimit},
		{api.Mesh{Verts: []api.Vec{{X: api.MaxCoord + 1}, {}}, Tris: tris(0, 0, 1)}, api.ErrRange},
		{api.Mesh{Verts: flat.Verts, Tris: tris(0, 1, 3)}, api.ErrArg},
	} {
		given := clone(q.m)
		if e := Check(q.m); e != q.e || !mesh.Same(q.m, given) {
			t.Errorf("Check of mesh %d: error %d; want %d", i, e, q.e)
		}
	}
}

// P14.2.
func TestRepair(t *testing.T) {
	b := box(0, 2, 3, 4)
	beside, _ := shapes.Box(api.Vec{X: -1, Y: -1}, api.Vec{X: 1, Y: 1, Z: 4})
	line := []api.Vec{{}, {X: 1}, {X: 2}}
	for i, q := range []struct {
		m      api.Mesh
		volume int
		report api.Report
		e      api.Errno
	}{
		{m: api.Mesh{}},
		{m: api.Mesh{Verts: line}, report: api.Report{Merged: 3}},
		{m: api.Mesh{Verts: line, Tris: tris(0, 1, 2)}, report: api.Report{Merged: 3, Degenerate: 1}},
		{m: b, volume: 144, report: api.Report{Shells: 1}},
		{m: mesh.Reverse(b), volume: 144, report: api.Report{Inverted: 1, Shells: 1}},
		{m: without(b, 5), volume: 144, report: api.Report{Holes: 1, Shells: 1}},
		{m: join(b, b), volume: 144, report: api.Report{Merged: 8, Duplicates: 12, Shells: 1}},
		{m: join(mesh.Reverse(b), box(9, 1, 1, 1)), volume: 150, report: api.Report{Inverted: 1, Shells: 2}},
		{m: with(b, 0, 2, 3, 3, 0, 2, 1, 1, 0), volume: 144, report: api.Report{Degenerate: 1, Duplicates: 2, Shells: 1}},
		// A single triangle is closed by itself, turned around.
		{m: api.Mesh{Verts: []api.Vec{{}, {X: 1}, {Y: 1}}, Tris: tris(0, 1, 2)}, report: api.Report{Holes: 1, Shells: 1}},
		{m: join(b, beside), e: api.ErrManifold}, // two boxes with a common edge
		{m: api.Mesh{Verts: []api.Vec{{}, {X: 1}, {Y: 1}, {Z: 1}, {X: 1, Y: 1}}, Tris: tris(0, 1, 2, 0, 1, 3, 0, 1, 4)}, e: api.ErrManifold},
		{m: api.Mesh{Verts: []api.Vec{{}, {X: 1}, {Y: 1}, {Z: 1}, {X: 1, Y: 1}}, Tris: tris(0, 1, 2, 0, 3, 4)}, e: api.ErrManifold},
		{m: api.Mesh{Verts: make([]api.Vec, api.MaxVerts+1)}, e: api.ErrLimit},
		{m: api.Mesh{Verts: []api.Vec{{X: api.MaxCoord + 1}}}, e: api.ErrRange},
		{m: api.Mesh{Verts: line, Tris: tris(0, 1, 3)}, e: api.ErrArg},
	} {
		given := clone(q.m)
		got, report, e := Repair(q.m)
		if mesh.Volume6(got) != q.volume || report != q.report || e != q.e || e != api.OK && !mesh.Same(got, api.Mesh{}) {
			t.Errorf("Repair of mesh %d = %v, %v, %d; want %d, %v, %d", i, got, report, e, q.volume, q.report, q.e)
		}
		if !mesh.Same(q.m, given) {
			t.Errorf("Repair has changed mesh %d", i)
		}
	}
}

// P14.2: a hole whose fan is degenerate, and one that needs too many triangles.
func TestRepairFails(t *testing.T) {
	// The loop is 0, 1, 2, 3, of which 0, 1 and 2 lie on a line.
	m := api.Mesh{Verts: []api.Vec{{}, {X: 1}, {X: 2}, {X: 2, Y: 1}, {X: 1, Y: 1, Z: -5}}, Tris: tris(1, 0, 4, 2, 1, 4, 3, 2, 4, 0, 3, 4)}
	if got, report, e := Repair(m); e != api.ErrArg || report != (api.Report{}) || !mesh.Same(got, api.Mesh{}) {
		t.Errorf("Repair with a degenerate fan = %v, %v, %d", got, report, e)
	}
	var strip api.Mesh
	for i := range 2100 {
		strip.Verts = append(strip.Verts, api.Vec{X: i, Y: i % 2})
		if i >= 2 {
			strip.Tris = append(strip.Tris, api.Tri{A: i, B: i - 1, C: i - 2})
		}
	}
	if got, report, e := Repair(strip); e != api.ErrLimit || report != (api.Report{}) || !mesh.Same(got, api.Mesh{}) {
		t.Errorf("Repair of a long strip: %v, error %d", report, e)
	}
}

// P14.2, P14.3, P14.4: the steps one by one, for boxes that are damaged in any way.
func TestRepairDamagedBoxes(t *testing.T) {
	random := rand.New(rand.NewSource(19))
	repaired := 0
	for range 400 {
		var m api.Mesh
		volume := 0
		for i := range 1 + random.Intn(3) {
			x, y, z := 1+random.Intn(9), 1+random.Intn(9), 1+random.Intn(9)
			volume += 6 * x * y * z
			part := box(20*i-20, x, y, z)
			if random.Intn(2) == 0 {
				part = without(part, random.Intn(12))
			}
			m = join(m, part)
		}
		keeps := true
		for i, tri := range m.Tris {
			switch random.Intn(9) {
			case 0, 1, 2:
				m.Tris[i] = reverse(tri)
			case 3:
				m.Tris = append(m.Tris, api.Tri{A: tri.B, B: tri.C, C: tri.A}) // a duplicate, unless the other one is turned
			case 4:
				m.Verts = append(m.Verts, m.Verts[tri.A])
				m.Tris[i].A = len(m.Verts) - 1
			case 5:
				if random.Intn(9) == 0 {
					m.Tris[i] = api.Tri{A: tri.A, B: tri.B, C: random.Intn(len(m.Verts))}
					keeps = false
				}
			}
		}
		given := clone(m)
		got, report, e := Repair(m)
		want, wantReport, wantE := steps(m)
		if !mesh.Same(got, want) || report != wantReport || e != wantE || !mesh.Same(m, given) {
			t.Errorf("Repair(%v) = %v, %v, %d; want %v, %v, %d", given, got, report, e, want, wantReport, wantE)
		}
		if e != api.OK {
			continue
		}
		repaired++
		if Check(got) != api.OK || keeps && mesh.Volume6(got) != volume {
			t.Errorf("Repair(%v) has the volume %d; want %d", given, mesh.Volume6(got), volume)
		}
		again, second, e := Repair(got)
		if e != api.OK || !mesh.Same(again, got) || second != (api.Report{Shells: report.Shells}) {
			t.Errorf("Repair of the result %v: %v, %v, %d", got, again, second, e)
		}
	}
	if repaired < 150 {
		t.Errorf("only %d meshes were repaired", repaired)
	}
}

// steps repairs a mesh as the chapter says.
func steps(m api.Mesh) (api.Mesh, api.Report, api.Errno) {
	var r api.Report
	a, first, e := weld.Weld(m)
	if e != api.OK {
		return api.Mesh{}, api.Report{}, e
	}
	b, degenerate, duplicates, _ := weld.Clean(a)
	c, second, _ := weld.Weld(b)
	r.Merged, r.Degenerate, r.Duplicates = first+second, degenerate, duplicates
	d, flipped, e := orient.Orient(c)
	if e != api.OK {
		return api.Mesh{}, api.Report{}, e
	}
	f, filled, e := holes.Fill(d)
	if e != api.OK {
		return api.Mesh{}, api.Report{}, e
	}
	g, inverted, e := orient.Outward(f)
	if e != api.OK {
		return api.Mesh{}, api.Report{}, e
	}
	if e := Check(g); e != api.OK {
		return api.Mesh{}, api.Report{}, e
	}
	r.Flipped, r.Holes, r.Inverted, r.Shells = flipped, filled, inverted, len(topo.Shells(g))
	return g, r, api.OK
}
