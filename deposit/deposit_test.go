package deposit

import (
	"math"
	"math/rand"
	"slices"
	"testing"

	"additive/api"
	"additive/kin"
	"additive/region"
	"additive/thermal"
)

const edge = api.MaxCell

// machine returns a machine with so many steps per unit.
func machine(num int) api.Machine {
	m := api.Machine{Ticks: 1000}
	for i := range m.Axes {
		m.Axes[i] = api.Axis{Num: num, Den: 1, Speed: 1000, Accel: 1000, Jerk: 10, Min: -1000, Max: 20000}
	}
	return m
}

func settings(pitch, height int) api.Settings {
	return api.Settings{Pitch: pitch, Height: height}
}

// cells returns the region of cells whose coordinates are given in pairs.
func cells(coordinates ...int) api.Region {
	var l []api.Cell
	for i := 0; i < len(coordinates); i += 2 {
		l = append(l, api.Cell{X: coordinates[i], Y: coordinates[i+1]})
	}
	r, _ := region.Of(l)
	return r
}

func same(a, b api.Bench) bool {
	if !slices.EqualFunc(a.Layers, b.Layers, func(r, s api.Region) bool {
		return slices.EqualFunc(r.Rows, s.Rows, func(v, w api.Row) bool { return v.Y == w.Y && slices.Equal(v.Runs, w.Runs) })
	}) {
		return false
	}
	return a.Real == b.Real && a.Temps == b.Temps && a.Heaters == b.Heaters && a.Filament == b.Filament && a.Drawn == b.Drawn && a.Dry == b.Dry && a.Hits == b.Hits && a.Door == b.Door && a.Broken == b.Broken
}

// P55.1.
func TestUnder(t *testing.T) {
	m, s := machine(2), settings(100, 20)
	core := machine(1)
	core.CoreXY = true
	for _, q := range []struct {
		m     api.Machine
		s     api.Settings
		pos   position
		cell  api.Cell
		layer int
	}{
		{m, s, position{300, -2, 40, 0}, api.Cell{X: 1, Y: -1}, 0}, {m, s, position{0, 0, 2, 5}, api.Cell{}, 0}, {m, s, position{199, 200, 42, 0}, api.Cell{X: 1, Y: 1}, 1}, {m, s, position{198, 197, 41, 0}, api.Cell{}, 1},
		{m, s, position{300, 300, 0, 0}, api.Cell{X: 1, Y: 1}, -1}, {m, s, position{300, 300, -50, 0}, api.Cell{X: 1, Y: 1}, -1}, {m, s, position{0, 0, 40 * 1000, 0}, api.Cell{}, 999},
		{core, s, position{300, 100, 20, 0}, api.Cell{X: 2, Y: 1}, 0}, {m, settings(33, 5), position{66, -66, 12, 0}, api.Cell{X: 1, Y: -1}, 1}, {m, settings(1024, 1024), position{0, 0, 2048, 0}, api.Cell{}, 0},
		{api.Machine{}, s, position{300, 300, 40, 0}, api.Cell{}, -1}, {m, settings(31, 20), position{300, 300, 40, 0}, api.Cell{}, -1}, {m, settings(1025, 20), position{300, 300, 40, 0}, api.Cell{}, -1},
		{m, settings(100, 3), position{300, 300, 40, 0}, api.Cell{}, -1}, {m, settings(100, 1025), position{300, 300, 40, 0}, api.Cell{}, -1}, {m, s, position{300, 300, 40, 1 << 49}, api.Cell{}, -1}, {m, s, position{math.MaxInt, 300, 40, 0}, api.Cell{}, -1}, {m, s, position{1<<46 + 1}, api.Cell{}, -1},
	} {
		if cell, layer := Under(q.m, q.s, q.pos); cell != q.cell || layer != q.layer {
			t.Errorf("Under(%v, %v) = %v, %d; want %v, %d", q.s, q.pos, cell, layer, q.cell, q.layer)
		}
	}
}

// P55.2.
func TestPulse(t *testing.T) {
	// The nozzle is above the cell (1, 1) in layer 0, and one pulse away from (2, 1).
	base := api.Bench{Real: position{199, 150, 20, 7}, Filament: 5, Layers: []api.Region{cells(0, 0)}}
	with := func(change func(*api.Bench)) api.Bench {
		b := copied(base)
		change(&b)
		return b
	}
	on := func(layers ...api.Region) func(*api.Bench) { return func(b *api.Bench) { b.Layers = layers } }
	for name, q := range map[string]struct {
		b     api.Bench
		pulse position
		want  func(*api.Bench)
	}{
		"nothing":  {base, position{}, func(*api.Bench) {}},
		"motors":   {base, position{1, -1, 1, 0}, func(b *api.Bench) { b.Real = position{200, 149, 21, 7} }},
		"material": {base, position{0, 0, 0, 1}, func(b *api.Bench) { b.Real[3], b.Filament = 8, 4; b.Layers = []api.Region{cells(0, 0, 1, 1)} }},
		"material behind": {base, position{1, 0, 0, 1}, func(b *api.Bench) {
			b.Real = position{200, 150, 20, 8}
			b.Filament = 4
			b.Layers = []api.Region{cells(0, 0, 2, 1)}
		}},
		"material above": {base, position{0, 0, 1, 1}, func(b *api.Bench) {
			b.Real = position{199, 150, 21, 8}
			b.Filament = 4
			b.Layers = []api.Region{cells(0, 0), cells(1, 1)}
		}},
		"material again": {with(on(cells(1, 1))), position{0, 0, 0, 1}, func(b *api.Bench) { b.Real[3], b.Filament = 8, 4 }},
		"far above": {with(func(b *api.Bench) { b.Real[2] = 100 }), position{0, 0, 0, 1}, func(b *api.Bench) {
			b.Real[3], b.Filament = 8, 4
			b.Layers = []api.Region{cells(0, 0), {}, {}, {}, cells(1, 1)}
		}},
		"highest layer": {with(func(b *api.Bench) { b.Real[2], b.Layers = 256*20, nil }), position{0, 0, 0, 1}, func(b *api.Bench) {
			b.Real[3], b.Filament = 8, 4
			b.Layers = append(make([]api.Region, 255), cells(1, 1))
		}},
		"above all layers":     {with(func(b *api.Bench) { b.Real[2] = 256*20 + 1 }), position{0, 0, 0, 1}, func(b *api.Bench) { b.Real[3], b.Filament = 8, 4 }},
		"below the bed":        {with(func(b *api.Bench) { b.Real[2] = 0 }), position{0, 0, 0, 1}, func(b *api.Bench) { b.Real[3], b.Filament = 8, 4 }},
		"beside the grid":      {with(func(b *api.Bench) { b.Real[0] = edge * 100 }), position{0, 0, 0, 1}, func(b *api.Bench) { b.Real[3], b.Filament = 8, 4 }},
		"last cell":            {with(func(b *api.Bench) { b.Real[0], b.Layers = edge*100-1, nil }), position{0, 0, 0, 1}, func(b *api.Bench) { b.Real[3], b.Filament = 8, 4; b.Layers = []api.Region{cells(edge-1, 1)} }},
		"back":                 {base, position{0, 0, 0, -1}, func(b *api.Bench) { b.Real[3], b.Drawn = 6, 1 }},
		"forward again":        {with(func(b *api.Bench) { b.Drawn = 3 }), position{0, 0, 0, 1}, func(b *api.Bench) { b.Real[3], b.Drawn = 8, 2 }},
		"dry":                  {with(func(b *api.Bench) { b.Filament = 0 }), position{0, 0, 0, 1}, func(b *api.Bench) { b.Real[3], b.Dry = 8, 1 }},
		"hit":                  {with(on(cells(1, 1), cells(2, 1))), position{1, 0, 0, 0}, func(b *api.Bench) { b.Real[0], b.Hits = 200, 1 }},
		"hit by Y":             {with(on(api.Region{}, api.Region{}, cells(1, 1))), position{0, 1, 0, 0}, func(b *api.Bench) { b.Real[1], b.Hits = 151, 1 }},
		"two layers, one hit":  {with(on(api.Region{}, cells(1, 1), cells(1, 1))), position{0, 1, 0, 0}, func(b *api.Bench) { b.Real[1], b.Hits = 151, 1 }},
		"material at its side": {with(on(cells(2, 1), cells(1, 1))), position{1, 0, 0, 0}, func(b *api.Bench) { b.Real[0] = 200 }},
		"only up":              {with(on(api.Region{}, api.Region{}, cells(1, 1))), position{0, 0, 1, 0}, func(b *api.Bench) { b.Real[2] = 21 }},
		"only the extruder":    {with(on(cells(1, 1), cells(1, 1))), position{0, 0, 0, 1}, func(b *api.Bench) { b.Real[3], b.Filament = 8, 4 }},
		"out of its layer":     {with(on(cells(1, 1), cells(1, 1))), position{0, 1, 1, 0}, func(b *api.Bench) { b.Real[1], b.Real[2] = 151, 21 }},
		"below everything":     {with(func(b *api.Bench) { b.Real[2], b.Layers = -5, []api.Region{cells(1, 1)} }), position{0, 1, 0, 0}, func(b *api.Bench) { b.Real[1], b.Hits = 151, 1 }},
		"other fields":         {with(func(b *api.Bench) { b.Temps, b.Door, b.Broken = [2]int{5, 6}, true, [2]bool{true, false} }), position{0, 1, 0, 0}, func(b *api.Bench) { b.Real[1] = 151 }},
	} {
		given := copied(q.b)
		got := Pulse(q.b, machine(1), settings(100, 20), q.pulse)
		want := copied(q.b)
		q.want(&want)
		if !same(got, want) || !same(q.b, given) {
			t.Errorf("%s: Pulse = %v; want %v", name, got, want)
		}
		for i := range got.Layers {
			for k := range got.Layers[i].Rows {
				got.Layers[i].Rows[k].Runs[0].From = -99
			}
		}
		if !same(q.b, given) {
			t.Errorf("%s: the result shares its layers", name)
		}
	}
}

// P55.2: arguments that are not valid, or a bench that would not be.
func TestPulseRefused(t *testing.T) {
	const most, real = 1 << 40, 1 << 40
	base := api.Bench{Real: position{199, 150, 20, 7}, Filament: 5, Layers: []api.Region{cells(0, 0), cells(1, 1)}}
	with := func(change func(*api.Bench)) api.Bench {
		b := copied(base)
		change(&b)
		return b
	}
	badRegion := api.Region{Rows: []api.Row{{Y: 0}}}
	for name, q := range map[string]struct {
		b     api.Bench
		m     api.Machine
		s     api.Settings
		pulse position
	}{
		"machine": {base, api.Machine{}, settings(100, 20), position{1, 0, 0, 1}}, "pitch": {base, machine(1), settings(31, 20), position{1, 0, 0, 1}}, "height": {base, machine(1), settings(100, 1025), position{1, 0, 0, 1}},
		"two": {base, machine(1), settings(100, 20), position{2}}, "minus two": {base, machine(1), settings(100, 20), position{0, 0, -2}}, "much": {base, machine(1), settings(100, 20), position{math.MaxInt}},
		"far": {with(func(b *api.Bench) { b.Real[2] = real + 1 }), machine(1), settings(100, 20), position{1}}, "too far": {with(func(b *api.Bench) { b.Real[2] = real }), machine(1), settings(100, 20), position{0, 0, 1}}, "too far back": {with(func(b *api.Bench) { b.Real[1] = -real }), machine(1), settings(100, 20), position{0, -1}},
		"negative filament": {with(func(b *api.Bench) { b.Filament = -1 }), machine(1), settings(100, 20), position{1}}, "negative drawn": {with(func(b *api.Bench) { b.Drawn = -1 }), machine(1), settings(100, 20), position{1}}, "negative dry": {with(func(b *api.Bench) { b.Dry = -1 }), machine(1), settings(100, 20), position{1}},
		"negative hits": {with(func(b *api.Bench) { b.Hits = -1 }), machine(1), settings(100, 20), position{1}}, "much filament": {with(func(b *api.Bench) { b.Filament = most + 1 }), machine(1), settings(100, 20), position{1}}, "drawn too far": {with(func(b *api.Bench) { b.Drawn = most }), machine(1), settings(100, 20), position{0, 0, 0, -1}},
		"too dry": {with(func(b *api.Bench) { b.Dry, b.Filament = most, 0 }), machine(1), settings(100, 20), position{0, 0, 0, 1}}, "too many hits": {with(func(b *api.Bench) { b.Hits = most }), machine(1), settings(100, 20), position{0, 1}},
		"layer": {with(func(b *api.Bench) { b.Layers[0] = badRegion }), machine(1), settings(100, 20), position{1, 0, 0, 1}}, "many layers": {with(func(b *api.Bench) { b.Layers = make([]api.Region, 257) }), machine(1), settings(100, 20), position{1, 0, 0, 1}},
	} {
		if got := Pulse(q.b, q.m, q.s, q.pulse); !same(got, q.b) {
			t.Errorf("%s: Pulse = %v; want %v", name, got, q.b)
		}
	}
	// At the bounds, but not beyond them.
	for name, b := range map[string]api.Bench{"drawn": with(func(b *api.Bench) { b.Drawn = most }), "dry": with(func(b *api.Bench) { b.Dry = most }), "layers": with(func(b *api.Bench) { b.Layers = make([]api.Region, 256) })} {
		if got := Pulse(b, machine(1), settings(100, 20), position{1}); got.Real[0] != 200 {
			t.Errorf("%s: Pulse = %v", name, got)
		}
	}
}

// P55.2, P55.5, P55.6: random ways of the nozzle, compared with a model.
func TestAnyWay(t *testing.T) {
	random := rand.New(rand.NewSource(55))
	hits, added := 0, 0
	for range 40 {
		m, s := machine(1+random.Intn(2)), settings(32+random.Intn(3), 4+random.Intn(3))
		m.CoreXY = random.Intn(2) == 0
		b := api.Bench{Real: position{60, 20, 5, 0}, Filament: 300}
		material := map[[3]int]bool{}
		way := position{}
		for range 1500 {
			if random.Intn(20) == 0 {
				way = position{random.Intn(3) - 1, random.Intn(3) - 1, (random.Intn(9) - 4) / 4, random.Intn(3) - 1}
			}
			before := b
			b = Pulse(b, m, s, way)
			real := before.Real
			for i := range real {
				real[i] += way[i]
			}
			at, _, _ := kin.Position(m, real)
			x, y := int(math.Floor(float64(at.X)/float64(s.Pitch))), int(math.Floor(float64(at.Y)/float64(s.Pitch)))
			layer := -1
			if at.Z >= 1 {
				layer = (at.Z - 1) / s.Height
			}
			if way[3] == 1 && before.Drawn == 0 && before.Filament > 0 && layer >= 0 && !material[[3]int{x, y, layer}] {
				material[[3]int{x, y, layer}] = true
				added++
			}
			hit := 0
			for c := range material {
				if (way[0] != 0 || way[1] != 0) && c[0] == x && c[1] == y && c[2] > layer {
					hit = 1
				}
			}
			hits += hit
			count := 0
			for i, r := range b.Layers {
				for _, c := range region.Cells(r) {
					count++
					if !material[[3]int{c.X, c.Y, i}] {
						t.Fatalf("material in %v of layer %d", c, i)
					}
				}
			}
			if b.Real != real || count != len(material) || b.Hits != before.Hits+hit || !valid(b) {
				t.Fatalf("Pulse(%v, %v) = %v", before, way, b)
			}
			if b.Real[3]+b.Drawn+b.Filament-b.Dry != 300 || way[3] == 0 && b.Filament != before.Filament || way[0] == 0 && way[1] == 0 && b.Hits != before.Hits {
				t.Fatalf("the filament of %v does not add up", b)
			}
		}
	}
	if hits < 100 || added < 100 {
		t.Errorf("only %d hits and %d cells", hits, added)
	}
}

// P55.3, P55.4.
func TestHeatAndReadings(t *testing.T) {
	good := api.Heater{Power: 4400, Loss: 4, Mass: 400, Ambient: 20000}
	b := api.Bench{Temps: [2]int{20000, 30000}, Heaters: [2]api.Heater{good, {Power: 1}}, Layers: []api.Region{cells(0, 0)}, Hits: -7}
	got := Heat(b, [2]int{255, 255})
	want := copied(b)
	want.Temps[0] = thermal.Step(good, 20000, 255)
	if !same(got, want) || want.Temps[0] == 20000 {
		t.Errorf("Heat = %v; want %v", got, want)
	}
	got.Layers[0].Rows[0].Runs[0].To = 9
	if !region.Same(b.Layers[0], cells(0, 0)) {
		t.Error("the result shares its layers")
	}
	b.Heaters[1] = good
	for _, q := range []struct{ temps, duties, want [2]int }{
		{[2]int{20000, 21000}, [2]int{0, 255}, [2]int{20000, thermal.Step(good, 21000, 255)}}, {[2]int{1 << 30, -1 << 30}, [2]int{0, 0}, [2]int{thermal.Step(good, 1<<30, 0), thermal.Step(good, -1<<30, 0)}},
		{[2]int{1<<30 + 1, -1<<30 - 1}, [2]int{5, 5}, [2]int{1<<30 + 1, -1<<30 - 1}}, {[2]int{math.MaxInt, math.MinInt}, [2]int{5, 5}, [2]int{math.MaxInt, math.MinInt}}, {[2]int{20000, 20000}, [2]int{math.MaxInt, math.MinInt}, [2]int{thermal.Step(good, 20000, 255), 20000}},
	} {
		b.Temps = q.temps
		if got := Heat(b, q.duties); got.Temps != q.want {
			t.Errorf("Heat of %v with %v = %v; want %v", q.temps, q.duties, got.Temps, q.want)
		}
	}
	b.Temps = [2]int{5, -6}
	for broken, want := range map[[2]bool][2]int{{}: {5, -6}, {true, false}: {0, -6}, {false, true}: {5, 0}, {true, true}: {}} {
		b.Broken = broken
		if got := Readings(b); got != want {
			t.Errorf("Readings with %v = %v; want %v", broken, got, want)
		}
	}
}
