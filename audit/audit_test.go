package audit

import (
	"math"
	"math/rand"
	"slices"
	"strconv"
	"strings"
	"testing"

	"additive/api"
	"additive/printer"
	"additive/region"
)

func settings() api.Settings {
	return api.Settings{Pitch: 40, Height: 20, Walls: 1, Top: 1, Bottom: 1, Spacing: 2, Reach: 1, Gap: 1, Drop: 8000, Feed: 4000, Travel: 8000, Retract: 2, MinFeed: 40, Nozzle: 200000, Bed: 60000}
}

func machine() api.Machine {
	m := api.Machine{Ticks: 1000}
	for i := range m.Axes {
		m.Axes[i] = api.Axis{Num: 1, Den: 1, Speed: 1000, Accel: 100000, Jerk: 200, Min: 0, Max: 20000}
	}
	m.Axes[3].Min, m.Axes[3].Max = -1000000, 1000000
	return m
}

// world returns the world after steps.
func world(l ...api.Step) api.World {
	w, e := printer.Run(settings(), machine(), l)
	if e != api.OK {
		panic("no world")
	}
	return w
}

// printed returns a world that has printed a box of two layers of 3 times 2 cells.
func printed() api.World {
	l := []api.Step{{Kind: api.WsPart, Name: "box", Numbers: []int{40, 40, 0, 120, 80, 40}}, {Kind: api.WsSlice}, {Kind: api.WsFeed, N: 100000}}
	for range 3 {
		l = append(l, api.Step{Kind: api.WsRun, N: 1000})
	}
	return world(l...)
}

func cells(coordinates ...int) api.Region {
	var l []api.Cell
	for i := 0; i < len(coordinates); i += 2 {
		l = append(l, api.Cell{X: coordinates[i], Y: coordinates[i+1]})
	}
	r, _ := region.Of(l)
	return r
}

// P60.1, P60.4: the example, and other positions.
func TestPosition(t *testing.T) {
	w := world()
	if l := All(w); len(l) != 0 || !Position(w) {
		t.Errorf("All of a new world = %v", l)
	}
	w.Bench.Real[0] = 5
	if l := All(w); len(l) != 0 || !Position(w) {
		t.Errorf("before homing: %v", l)
	}
	home := world(api.Step{Kind: api.WsPanel, Cmd: api.Cmd{Code: api.CoHome}})
	if !Position(home) || len(All(home)) != 0 {
		t.Errorf("after homing: %v", All(home))
	}
	for i := range api.Motors {
		moved := home
		moved.Bench.Real[i]++
		if l := All(moved); !slices.Equal(l, []string{"position"}) || Position(moved) {
			t.Errorf("with motor %d moved: %v", i, l)
		}
		moved.Power = false
		if !Position(moved) || len(All(moved)) != 0 {
			t.Errorf("without power: %v", All(moved))
		}
	}
}

// P60.2.
func TestHeaters(t *testing.T) {
	for i, q := range []struct {
		change func(*api.World)
		want   bool
	}{
		{func(*api.World) {}, true}, {func(w *api.World) { w.Bench.Temps[0] = 19999 }, false}, {func(w *api.World) { w.Bench.Temps[1] = 19999 }, false}, {func(w *api.World) { w.Bench.Temps[0] = 20000 + 255*4400/4 }, true}, {func(w *api.World) { w.Bench.Temps[0] = 20001 + 255*4400/4 }, false},
		{func(w *api.World) { w.Bench.Temps[1] = 20000 + 255*800/2 }, true}, {func(w *api.World) { w.Bench.Temps[1] = 20001 + 255*800/2 }, false}, {func(w *api.World) { w.Bench.Heaters[1].Mass = 0 }, false}, {func(w *api.World) { w.Bench.Heaters[0].Loss = 0 }, false}, {func(w *api.World) { w.Bench.Temps[0] = math.MaxInt }, false},
	} {
		w := world()
		q.change(&w)
		var want []string
		if !q.want {
			want = []string{"heaters"}
		}
		if l := All(w); Heaters(w) != q.want || !slices.Equal(l, want) {
			t.Errorf("case %d: Heaters = %v, All = %v", i, Heaters(w), l)
		}
	}
}

// P60.3, P60.4.
func TestMaterial(t *testing.T) {
	full := cells(1, 1, 2, 1, 3, 1, 1, 2, 2, 2, 3, 2)
	bad := api.Region{Rows: []api.Row{{Y: 0}}}
	w := printed()
	if len(w.Bench.Layers) != 2 || !region.Same(w.Bench.Layers[0], full) || len(All(w)) != 0 {
		t.Fatalf("the layers are %v, and All is %v", w.Bench.Layers, All(w))
	}
	for i, q := range []struct {
		layers []api.Region
		want   []int
	}{
		{nil, nil}, {[]api.Region{{}, {}, {}}, nil}, {[]api.Region{full, full}, nil}, {[]api.Region{cells(2, 2), {}}, nil}, {[]api.Region{full, full, cells(1, 1)}, []int{2}}, {[]api.Region{cells(4, 1), full}, []int{0}}, {[]api.Region{cells(0, 1, 1, 1), cells(1, 3)}, []int{0, 1}},
		{[]api.Region{bad, full}, []int{0}}, {[]api.Region{full, full, {}, bad, {}, cells(9, 9)}, []int{3, 5}},
	} {
		v := w
		v.Bench.Layers = q.layers
		var want []string
		for _, n := range q.want {
			want = append(want, "layer "+strconv.Itoa(n))
		}
		if got, l := Material(v), All(v); !slices.Equal(got, q.want) || !slices.Equal(l, want) {
			t.Errorf("case %d: Material = %v, All = %v; want %v", i, got, l, q.want)
		}
	}
	// Without a program, or one that can be planned, no material is due.
	none, unplanned := w, w
	none.Program = nil
	unplanned.Settings.Pitch = 41
	for _, v := range []api.World{none, unplanned} {
		if got := Material(v); !slices.Equal(got, []int{0, 1}) {
			t.Errorf("Material = %v", got)
		}
	}
	// All findings, in their order.
	w.Bench.Real[1]++
	w.Bench.Temps[0] = -5
	w.Bench.Layers = slices.Repeat([]api.Region{cells(7, 7)}, 12)
	var want []string
	for i := range 12 {
		want = append(want, "layer "+strconv.Itoa(i))
	}
	if l := All(w); !slices.Equal(l, append([]string{"position", "heaters"}, want...)) {
		t.Errorf("All = %v", l)
	}
	if l := All(api.World{Bench: api.Bench{Layers: []api.Region{bad}}, Power: true}); !slices.Equal(l, []string{"heaters", "layer 0"}) {
		t.Errorf("All of another world = %v", l)
	}
}

// randomStep returns a step of any kind.
func randomStep(random *rand.Rand) api.Step {
	s := api.Step{Kind: 1 + random.Intn(16), N: random.Intn(3), At: random.Intn(3), Keep: random.Intn(65)}
	switch s.Kind {
	case api.WsPart:
		s.Name, s.Numbers = "box", []int{40 * random.Intn(9), 40 * random.Intn(9), 0, 40, 80, 40}
	case api.WsTicks, api.WsFeed:
		s.N = random.Intn(400)
	case api.WsRun:
		s.N = random.Intn(1500)
	case api.WsPanel:
		s.Cmd = []api.Cmd{{Code: api.CoHome}, {Code: api.CoHome}, {Code: api.CoStop}, {Code: api.CoReset}, {Code: api.CoReset}, {Code: api.CoPause}, {Code: api.CoResume}, {Code: api.CoNozzle, Has: api.HasS, S: 200000}}[random.Intn(8)]
	}
	return s
}

// P60.5, and G11.
func TestAnyScript(t *testing.T) {
	random := rand.New(rand.NewSource(60))
	material, homed := 0, 0
	for range 60 {
		l := []api.Step{{Kind: api.WsPart, Name: "box", Numbers: []int{40, 40, 0, 120, 80, 40}}}
		if random.Intn(4) > 0 {
			l = append(l, api.Step{Kind: api.WsSlice}, api.Step{Kind: api.WsFeed, N: 500}, api.Step{Kind: api.WsRun, N: 500})
		}
		for range random.Intn(150) {
			l = append(l, randomStep(random))
		}
		w := world(l...)
		if findings := All(w); len(findings) != 0 {
			t.Errorf("after %v: %v", l, strings.Join(findings, ", "))
		}
		if w.Power && w.Firmware.Homed {
			homed++
		}
		for _, r := range w.Bench.Layers {
			material += region.Count(r)
		}
	}
	if material < 100 || homed < 5 {
		t.Errorf("only %d cells of material, and %d worlds are homed", material, homed)
	}
}
