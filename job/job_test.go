package job

import (
	"math"
	"math/rand"
	"slices"
	"strings"
	"testing"

	"additive/api"
	"additive/emit"
	"additive/flow"
	"additive/gcode"
	"additive/inspect"
	"additive/layer"
	"additive/mesh"
	"additive/morph"
	"additive/region"
	"additive/shapes"
	"additive/stack"
	"additive/support"
	"additive/toolpath"
	"additive/track"
)

const edge = api.MaxCell

// settings returns the default settings of layer 59.
func settings() api.Settings {
	return api.Settings{Pitch: 40, Height: 20, Walls: 1, Top: 1, Bottom: 1, Spacing: 2, Reach: 1, Gap: 1, Drop: 8000, Feed: 4000, Travel: 8000, Retract: 2, MinFeed: 40, Nozzle: 200000, Bed: 60000}
}

func machine() api.Machine {
	m := api.Machine{Ticks: 1000}
	for i := range m.Axes {
		m.Axes[i] = api.Axis{Num: 1, Den: 1, Speed: 1000, Accel: 100000, Jerk: 200, Min: 0, Max: 20000}
	}
	return m
}

// box returns a box whose corner and sizes are in cells and layers.
func box(x, y, z, w, d, h int) api.Mesh {
	m, e := shapes.Box(api.Vec{X: 40 * x, Y: 40 * y, Z: 20 * z}, api.Vec{X: 40 * w, Y: 40 * d, Z: 20 * h})
	if e != api.OK {
		panic("no box")
	}
	return m
}

// text prints commands, separated by semicolons.
func text(l []api.Cmd) string {
	var lines []string
	for _, c := range l {
		line, e := gcode.Print(c)
		if e != api.OK {
			line = "?"
		}
		lines = append(lines, line)
	}
	return strings.Join(lines, "; ")
}

func sameOp(a, b api.Op) bool {
	return a.Kind == b.Kind && a.Role == b.Role && a.Layer == b.Layer && a.Z == b.Z && a.Speed == b.Speed && slices.Equal(a.Cells, b.Cells)
}

// P57.1.
func TestCheck(t *testing.T) {
	thin, thick, broken := settings(), settings(), machine()
	thin.Drop, thick.Drop, broken.Ticks = 8001, 8000, 0
	for i, q := range []struct {
		s api.Settings
		m api.Machine
		e api.Errno
	}{{thick, machine(), api.OK}, {thin, machine(), api.ErrArg}, {settings(), broken, api.ErrArg}, {api.Settings{}, machine(), api.ErrArg}} {
		if e := Check(q.s, q.m); e != q.e {
			t.Errorf("case %d: Check = %d; want %d", i, e, q.e)
		}
		if q.e == api.OK {
			continue
		}
		if l, r, e := Program([]api.Mesh{{Tris: []api.Tri{{}}}}, q.s, q.m); e != q.e || len(l)+len(r) > 0 {
			t.Errorf("case %d: Program = %v, %d", i, text(l), e)
		}
	}
}

// P57.3: the examples.
func TestProgramExamples(t *testing.T) {
	for _, q := range []struct {
		parts []api.Mesh
		want  string
	}{
		{nil, "M140 S60000; M104 S200000; G28; M190 S60000; M109 S200000; M107; M104 S0; M140 S0"},
		{[]api.Mesh{box(1, 1, 0, 1, 1, 1)}, "M140 S60000; M104 S200000; G28; M190 S60000; M109 S200000; G0 Z20 F8000; M107; G1 E-2; G0 X60 Y20; G0 X60 Y60; G1 E0; G1 E4 F4000; M107; M104 S0; M140 S0"},
	} {
		got, slices, e := Program(q.parts, settings(), machine())
		if text(got) != q.want || e != api.OK || len(slices) != len(q.parts) {
			t.Errorf("Program = %q, %v, %d; want %q", text(got), slices, e, q.want)
		}
	}
}

// columns returns parts with more single cells than a layer may have tracks.
func columns() []api.Mesh {
	var parts []api.Mesh
	for i := range 13 {
		var m api.Mesh
		for k := range 320 {
			m, _ = mesh.Join(m, box(2*(k%80), 8*i+2*(k/80), 0, 1, 1, 1))
		}
		parts = append(parts, m)
	}
	return parts
}

// P57.2, P57.3: the errors, in their order.
func TestErrors(t *testing.T) {
	open := api.Mesh{Verts: []api.Vec{{}, {X: 1}, {Y: 1}}, Tris: []api.Tri{{A: 0, B: 1, C: 2}}}
	negative, _ := shapes.Box(api.Vec{X: -400, Y: 0, Z: 0}, api.Vec{X: 80, Y: 80, Z: 40})
	wide, _ := shapes.Box(api.Vec{X: 1000}, api.Vec{X: 64536, Y: 80, Z: 40})
	coarse, brim, small, deep, tall, fine, walled := settings(), settings(), machine(), machine(), machine(), settings(), settings()
	coarse.Height = 21
	brim.Brim = 64
	small.Axes[0].Max = 99
	deep.Axes[1].Max = 99
	tall.Axes[2].Max = 39
	walled.Walls = 9
	fine.Drop = 1
	for i, q := range []struct {
		parts         []api.Mesh
		s             api.Settings
		m             api.Machine
		plan, program api.Errno
	}{
		{[]api.Mesh{box(1, 1, 0, 2, 2, 2)}, settings(), machine(), api.OK, api.OK}, {[]api.Mesh{open}, settings(), machine(), api.ErrOpen, api.ErrOpen}, {[]api.Mesh{open}, coarse, machine(), api.ErrArg, api.ErrArg},
		{[]api.Mesh{mesh.Reverse(box(1, 1, 0, 2, 2, 2))}, settings(), machine(), api.ErrArg, api.ErrArg}, {[]api.Mesh{negative}, settings(), machine(), api.OK, api.ErrRange}, {[]api.Mesh{wide}, settings(), machine(), api.OK, api.ErrRange},
		{[]api.Mesh{box(1, 1, 0, 2, 2, 2)}, settings(), small, api.OK, api.ErrRange}, {[]api.Mesh{box(1, 1, 0, 2, 2, 2)}, settings(), deep, api.OK, api.ErrRange}, {[]api.Mesh{open}, walled, machine(), api.ErrArg, api.ErrArg}, {nil, walled, machine(), api.ErrArg, api.ErrArg}, {columns(), settings(), machine(), api.ErrLimit, api.ErrLimit},
		{[]api.Mesh{box(1, 1, 0, 2, 2, 2)}, settings(), tall, api.OK, api.ErrRange}, {[]api.Mesh{box(1, 1, 0, 2, 2, 1)}, settings(), tall, api.OK, api.OK},
		{[]api.Mesh{box(1, 1, 0, 400, 400, 4)}, fine, machine(), api.OK, api.ErrRange}, // E is too great
		{[]api.Mesh{box(1, 1, 0, 2, 2, 2)}, brim, machine(), api.OK, api.ErrRange},
	} {
		slices, supports, ops, e := Plan(q.parts, q.s)
		if e != q.plan || e != api.OK && len(slices)+len(supports)+len(ops) > 0 {
			t.Errorf("case %d: Plan: error %d; want %d", i, e, q.plan)
		}
		if l, r, e := Program(q.parts, q.s, q.m); e != q.program || e != api.OK && len(l)+len(r) > 0 {
			t.Errorf("case %d: Program: error %d; want %d", i, e, q.program)
		}
	}
	// The position before the first command with a coordinate does not matter.
	away := machine()
	away.Axes[0].Min = 10
	if l, _, e := Program(nil, settings(), away); e != api.OK || len(l) != 8 {
		t.Errorf("Program of no parts: %d commands, error %d", len(l), e)
	}
}

// P57.3: as many commands as are allowed, and more.
func TestTooManyCommands(t *testing.T) {
	s := settings()
	s.Walls, s.Top, s.Bottom, s.Pattern, s.Spacing, s.Height, s.Drop = 0, 0, 0, api.PaStairs, 1, 20, 8000
	if l, _, e := Program([]api.Mesh{box(1, 1, 0, 20, 20, 100)}, s, machine()); e != api.OK || len(l) > maxCommands || len(l) < 20000 {
		t.Errorf("Program has %d commands, error %d", len(l), e)
	}
	if l, _, e := Program([]api.Mesh{box(1, 1, 0, 20, 20, 250)}, s, machine()); e != api.ErrLimit || len(l) > 0 {
		t.Errorf("Program has %d commands, error %d", len(l), e)
	}
}

// randomParts returns boxes and pyramids.
func randomParts(random *rand.Rand) []api.Mesh {
	var parts []api.Mesh
	for range 1 + random.Intn(3) {
		x, y := 4+random.Intn(6), 4+random.Intn(6)
		if random.Intn(2) == 0 {
			parts = append(parts, box(x, y, random.Intn(3), 1+random.Intn(7), 1+random.Intn(7), 1+random.Intn(3)))
			continue
		}
		base := []api.Pt{{X: 40 * x, Y: 40 * y}, {X: 40*x + 50 + random.Intn(250), Y: 40 * y}, {X: 40 * x, Y: 40*y + 50 + random.Intn(250)}}
		m, _ := shapes.Pyramid(base, 0, api.Vec{X: 40*x + random.Intn(300), Y: 40*y + random.Intn(300), Z: 10 + random.Intn(60)})
		parts = append(parts, m)
	}
	return parts
}

// P57.2, P57.3, P57.4, P57.5.
func TestAnyParts(t *testing.T) {
	random := rand.New(rand.NewSource(57))
	for range 60 {
		parts := randomParts(random)
		s := settings()
		s.Walls, s.Top, s.Bottom, s.Pattern, s.Spacing, s.Support = random.Intn(3), random.Intn(2), random.Intn(2), random.Intn(4), 1+random.Intn(3), random.Intn(2) == 0
		s.Brim, s.Skirt, s.Reach, s.Gap = random.Intn(3), random.Intn(3), random.Intn(2), random.Intn(2)
		layers, supports, ops, e := Plan(parts, s)
		wantLayers, _ := stack.Slices(parts, s)
		wantSupports := make([]api.Region, len(wantLayers))
		if s.Support {
			wantSupports, _ = support.Supports(wantLayers, s.Reach, s.Gap)
		}
		wantOps, _ := toolpath.Path(wantLayers, wantSupports, s)
		if e != api.OK || !inspect.Equal(layers, wantLayers) || !inspect.Equal(supports, wantSupports) || !slices.EqualFunc(ops, wantOps, sameOp) {
			t.Fatalf("Plan(%v, %v): error %d", parts, s, e)
		}
		commands, _ := emit.Commands(ops, s)
		program, planned, e := Program(parts, s, machine())
		heat := func(code, n int) api.Cmd { return api.Cmd{Code: code, Has: api.HasS, S: n} }
		want := slices.Concat([]api.Cmd{heat(api.CoBed, 60000), heat(api.CoNozzle, 200000), {Code: api.CoHome}, heat(api.CoBedW, 60000), heat(api.CoNozzleW, 200000)}, commands,
			[]api.Cmd{{Code: api.CoFanOff}, heat(api.CoNozzle, 0), heat(api.CoBed, 0)})
		if e != api.OK || !slices.Equal(program, want) || !inspect.Equal(planned, layers) || slices.ContainsFunc(program, func(c api.Cmd) bool { return !gcode.Valid(c) }) {
			t.Errorf("Program(%v, %v) = %q, %d; want %q", parts, s, text(program), e, text(want))
		}
		made := Made(ops)
		if len(made) != len(layers) {
			t.Fatalf("Made has %d layers, not %d", len(made), len(layers))
		}
		for i, r := range made {
			tracks, _ := layer.Tracks(layers, supports, i, s)
			around, _ := morph.Dilate(region.Union(layers[i], supports[i]), s.Brim+s.Skirt+1)
			if i > 0 {
				around = region.Union(layers[i], supports[i])
			}
			if !region.Same(r, track.Cover(tracks)) || len(inspect.Missing(layers[i], r, s.Spacing).Rows) > 0 || !region.Within(r, around) {
				t.Errorf("layer %d of %v with %v is %v", i, parts, s, r)
			}
		}
	}
}

// P57.4.
func TestMade(t *testing.T) {
	begin := func(n int) api.Op { return api.Op{Kind: api.OpLayer, Layer: n} }
	printed := func(coordinates ...int) api.Op {
		o := api.Op{Kind: api.OpPrint}
		for i := 0; i < len(coordinates); i += 2 {
			o.Cells = append(o.Cells, api.Cell{X: coordinates[i], Y: coordinates[i+1]})
		}
		return o
	}
	cells := func(coordinates ...int) api.Region {
		r, _ := region.Of(printed(coordinates...).Cells)
		return r
	}
	for i, q := range []struct {
		l    []api.Op
		want []api.Region
	}{
		{nil, nil}, {[]api.Op{printed(1, 1)}, nil}, {[]api.Op{begin(0)}, []api.Region{{}}}, {[]api.Op{begin(2), printed(1, 1, 1, 2), begin(0), printed(5, 5)}, []api.Region{cells(5, 5), {}, cells(1, 1, 1, 2)}},
		{[]api.Op{begin(0), printed(1, 1), begin(1), begin(0), printed(2, 2, 1, 1)}, []api.Region{cells(1, 1, 2, 2), {}}}, {[]api.Op{begin(-1), printed(1, 1)}, nil}, {[]api.Op{begin(256), printed(1, 1), begin(math.MaxInt), begin(math.MinInt)}, nil},
		{[]api.Op{begin(255), printed(1, 1)}, append(make([]api.Region, 255), cells(1, 1))}, {[]api.Op{begin(0), printed(edge, 1, 3, 3, 0, -edge-1, 0, edge, -edge-1, 0, -edge, -edge, math.MaxInt, math.MinInt)}, []api.Region{cells(3, 3, -edge, -edge)}},
		{[]api.Op{begin(0), printed(1, 1), begin(256), printed(2, 2), begin(1)}, []api.Region{cells(1, 1), {}}},
	} {
		if got := Made(q.l); !inspect.Equal(got, q.want) {
			t.Errorf("case %d: Made = %v; want %v", i, got, q.want)
		}
	}
}

// P57.6.
func TestReport(t *testing.T) {
	s := settings()
	_, _, one, _ := Plan([]api.Mesh{box(1, 1, 0, 1, 1, 1)}, s)
	start := func(n, z int) api.Op { return api.Op{Kind: api.OpLayer, Layer: n, Z: z} }
	path := func(kind, role int, coordinates ...int) api.Op {
		o := api.Op{Kind: kind, Role: role, Speed: 10}
		for i := 0; i < len(coordinates); i += 2 {
			o.Cells = append(o.Cells, api.Cell{X: coordinates[i], Y: coordinates[i+1]})
		}
		return o
	}
	var all []api.Op
	for role := range 10 {
		all = append(all, path(api.OpPrint, role, 0, 0))
	}
	for i, q := range []struct {
		l    []api.Op
		s    api.Settings
		want string
		e    api.Errno
	}{
		{nil, s, "total 0 filament 0\n", api.OK}, {one, s, "layer 0 z 20 time 20 travel 2 retract 1 thin 1\ntotal 1 filament 4\n", api.OK},
		{append([]api.Op{start(7, -3)}, all...), s, "layer 7 z -3 time 1000 travel 0 retract 0 wall 1 thin 1 skin 1 infill 1 bridge 1 support 1 brim 1\ntotal 10 filament 40\n", api.OK},
		{
			[]api.Op{start(0, 20), path(api.OpPrint, api.RoWall, 0, 0, 1, 0), path(api.OpTravel, 0, 2, 0, 3, 0, 4, 0), path(api.OpPrint, api.RoWall, 4, 0), start(0, 40), {Kind: api.OpRetract}, path(api.OpTravel, 0, 4, 1), {Kind: api.OpFan, Speed: 9}},
			s, "layer 0 z 20 time 600 travel 3 retract 0 wall 3\nlayer 0 z 40 time 100 travel 1 retract 1\ntotal 3 filament 10\n", api.OK,
		},
		{[]api.Op{{Kind: api.OpFan}}, s, "", api.ErrArg}, {[]api.Op{{Kind: 9}}, s, "", api.ErrArg}, {nil, api.Settings{}, "", api.ErrArg}, {[]api.Op{start(0, 0), {Kind: api.OpPrime}}, s, "", api.ErrArg},
		{[]api.Op{start(0, 0), path(api.OpPrint, 1, 1, 1)}, s, "", api.ErrArg},
		{slices.Concat([]api.Op{start(0, 0)}, slices.Repeat([]api.Op{{Kind: api.OpPrint, Cells: make([]api.Cell, 1)}}, 1<<20+1)), s, "", api.ErrLimit},
	} {
		if got, e := Report(q.l, q.s); got != q.want || e != q.e {
			t.Errorf("case %d: Report = %q, %d; want %q, %d", i, got, e, q.want, q.e)
		}
	}
	_, _, plan, _ := Plan([]api.Mesh{box(2, 2, 0, 6, 6, 3)}, s)
	got, _ := Report(plan, s)
	amounts, _ := flow.Amounts(plan, s)
	if lines := strings.Split(got, "\n"); len(lines) != 5 || !strings.HasPrefix(lines[2], "layer 2 z 60 time ") || !strings.Contains(lines[2], " wall 20 skin 16") || amounts[len(amounts)-1] != 400 || lines[3] != "total 100 filament 400" {
		t.Errorf("Report = %q", got)
	}
}
