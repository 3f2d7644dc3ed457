package emit

import (
	"math"
	"math/rand"
	"slices"
	"testing"

	"additive/api"
	"additive/flow"
	"additive/gcode"
	"additive/raster"
	"additive/region"
	"additive/toolpath"
)

const edge = api.MaxCell

func settings() api.Settings {
	return api.Settings{Pitch: 40, Height: 20, Walls: 1, Top: 1, Bottom: 1, Spacing: 2, Drop: 1000, Feed: 4000, Travel: 80, Retract: 5, MinFeed: 40}
}

// cells returns cells whose coordinates are given in pairs.
func cells(coordinates ...int) []api.Cell {
	l := []api.Cell{}
	for i := 0; i < len(coordinates); i += 2 {
		l = append(l, api.Cell{X: coordinates[i], Y: coordinates[i+1]})
	}
	return l
}

func op(kind, speed int, coordinates ...int) api.Op {
	return api.Op{Kind: kind, Speed: speed, Cells: cells(coordinates...)}
}

// text prints commands, separated by semicolons.
func text(l []api.Cmd) string {
	s := ""
	for _, c := range l {
		line, e := gcode.Print(c)
		if e != api.OK {
			line = "?"
		}
		s += line + "; "
	}
	return s
}

// P40.1.
func TestCorners(t *testing.T) {
	for _, q := range []struct {
		l    []api.Cell
		from api.Cell
		want []api.Cell
	}{
		{cells(1, 0, 2, 0, 2, 1), api.Cell{}, cells(2, 0, 2, 1)},
		{nil, api.Cell{}, nil},
		{cells(1, 0), api.Cell{}, cells(1, 0)},
		{cells(0, 0), api.Cell{}, cells(0, 0)},
		{cells(1, 0, 2, 0, 3, 0), api.Cell{}, cells(3, 0)},
		{cells(1, 0, 2, 0, 3, 0), api.Cell{X: 1, Y: 1}, cells(1, 0, 3, 0)},
		{cells(0, 0, 0, 0, 0, 0), api.Cell{}, cells(0, 0)},
		{cells(1, 0, 1, 0, 2, 0), api.Cell{}, cells(1, 0, 1, 0, 2, 0)},
		{cells(2, 2, 4, 4, 6, 6, 7, 7), api.Cell{}, cells(6, 6, 7, 7)},
		{cells(1, 0, 0, 0), api.Cell{}, cells(1, 0, 0, 0)},
		{cells(edge-1, -edge), api.Cell{X: -edge, Y: edge - 1}, cells(edge-1, -edge)},
		{cells(1, 0, edge, 0), api.Cell{}, nil}, {cells(1, 0), api.Cell{Y: -edge - 1}, nil}, {cells(0, math.MaxInt), api.Cell{}, nil}, {cells(1, 0), api.Cell{X: math.MinInt}, nil},
	} {
		given := slices.Clone(q.l)
		if got := Corners(q.l, q.from); !slices.Equal(got, q.want) || !slices.Equal(q.l, given) {
			t.Errorf("Corners(%v, %v) = %v; want %v", q.l, q.from, got, q.want)
		}
	}
}

// P40.2.
func TestCommands(t *testing.T) {
	layer := api.Op{Kind: api.OpLayer, Z: 20}
	for _, q := range []struct {
		l    []api.Op
		want string
	}{
		{[]api.Op{layer, op(api.OpTravel, 2, 1, 0), op(api.OpPrint, 1, 1, 0, 2, 0)}, "G0 Z20 F80; G0 X60 Y20; G1 E32 F40; G1 X100 Y20 E64; "},
		{[]api.Op{op(api.OpFan, 255), op(api.OpFan, 0), op(api.OpFan, 1)}, "M106 S255; M107; M106 S1; "},
		{nil, ""},
		{[]api.Op{op(api.OpTravel, 0), op(api.OpPrint, -1), op(0, 0), op(99, 0, 1, 1)}, ""},
		{[]api.Op{layer, layer}, "G0 Z20 F80; G0 Z20; "},
		{[]api.Op{op(api.OpPrint, 3, 0, 0)}, "G1 E32 F120; "},
		{[]api.Op{op(api.OpPrint, 3, 1, 0, 2, 0, 2, 1)}, "G1 X100 Y20 E64 F120; G1 X100 Y60 E96; "},
		{[]api.Op{op(api.OpPrint, 3, 0, 0, 1, 0, 1, 1, 2, 1)}, "G1 E32 F120; G1 X60 Y20 E64; G1 X60 Y60 E96; G1 X100 Y60 E128; "},
		{[]api.Op{op(api.OpPrint, 2, 0, 0), op(api.OpRetract, 7), op(api.OpTravel, 2, 0, -1), op(api.OpPrime, 9), op(api.OpPrint, 5, 0, -1)}, "G1 E32 F80; G1 E27; G0 X20 Y-20; G1 E32; G1 E64 F200; "},
		{[]api.Op{op(api.OpTravel, 1<<14, 1, 0, 2, 0, 3, 0)}, "G0 X140 Y20 F655360; "},
		// A jump is a direction like any other one.
		{[]api.Op{op(api.OpTravel, 1, 5, 5, 5, 5), op(api.OpPrint, 1, 5, 5, 5, 5)}, "G0 X220 Y220 F40; G0 X220 Y220; G1 E32; G1 X220 Y220 E64; "},
	} {
		got, e := Commands(q.l, settings())
		if text(got) != q.want || e != api.OK {
			t.Errorf("Commands(%v) = %q, %d; want %q", q.l, text(got), e, q.want)
		}
	}
}

// P40.2: the errors.
func TestErrors(t *testing.T) {
	fine, coarse := settings(), settings()
	fine.Drop = 1
	coarse.Pitch = 1024
	long := api.Op{Kind: api.OpPrint, Speed: 1, Cells: make([]api.Cell, 40000)}
	for i, q := range []struct {
		l []api.Op
		s api.Settings
		e api.Errno
	}{
		{[]api.Op{op(api.OpTravel, 0, edge, 0)}, api.Settings{}, api.ErrArg},
		{[]api.Op{op(api.OpTravel, 0, edge, 0), op(api.OpPrime, 0)}, settings(), api.ErrOrder},
		{[]api.Op{op(api.OpRetract, 0), op(api.OpPrint, 1, 0, 0)}, settings(), api.ErrOrder},
		{[]api.Op{{Kind: api.OpPrint, Cells: make([]api.Cell, 1<<20+1)}}, settings(), api.ErrLimit},
		{[]api.Op{op(api.OpTravel, 1, edge, 0)}, settings(), api.ErrRange}, {[]api.Op{op(api.OpPrint, 1, 0, -edge-1)}, settings(), api.ErrRange}, {[]api.Op{op(api.OpFan, 1, math.MaxInt, 0)}, settings(), api.ErrRange},
		{[]api.Op{op(99, 1, 0, 0, 0, edge)}, settings(), api.ErrRange},
		{[]api.Op{op(api.OpTravel, 0, 1, 0)}, settings(), api.ErrRange}, {[]api.Op{op(api.OpPrint, 0, 0, 0)}, settings(), api.ErrRange}, {[]api.Op{op(api.OpTravel, -1, 1, 0)}, settings(), api.ErrRange},
		{[]api.Op{op(api.OpTravel, 1<<20+1, 1, 0)}, settings(), api.ErrRange}, {[]api.Op{op(api.OpPrint, math.MaxInt, 0, 0)}, settings(), api.ErrRange},
		{[]api.Op{op(api.OpTravel, 1024, 1, 0)}, coarse, api.OK}, {[]api.Op{op(api.OpTravel, 1025, 1, 0)}, coarse, api.ErrRange}, {[]api.Op{op(api.OpPrint, 1<<20, 1, 0)}, settings(), api.ErrRange},
		{[]api.Op{op(api.OpFan, 256)}, settings(), api.ErrRange}, {[]api.Op{op(api.OpFan, -1)}, settings(), api.ErrRange},
		{[]api.Op{{Kind: api.OpLayer, Z: 1 << 30}}, settings(), api.OK}, {[]api.Op{{Kind: api.OpLayer, Z: 1<<30 + 1}}, settings(), api.ErrRange}, {[]api.Op{{Kind: api.OpLayer, Z: math.MinInt}}, settings(), api.ErrRange},
		{[]api.Op{long}, settings(), api.OK}, {[]api.Op{long}, fine, api.ErrRange}, {[]api.Op{{Kind: api.OpLayer, Z: 5}, op(api.OpFan, 300), op(api.OpTravel, 1, 1, 0)}, settings(), api.ErrRange},
	} {
		if got, e := Commands(q.l, q.s); e != q.e || e != api.OK && len(got) != 0 {
			t.Errorf("case %d: Commands = %q, %d; want %d", i, text(got), e, q.e)
		}
	}
}

// literal makes the commands by the definition.
func literal(l []api.Op, s api.Settings) []api.Cmd {
	var commands []api.Cmd
	nozzle, printed, last := api.Cell{}, 0, 0
	amounts, _ := flow.Amounts(l, s)
	add := func(c api.Cmd, speed int) {
		if speed > 0 && speed != last {
			c.Has |= api.HasF
			c.F, last = speed, speed
		}
		commands = append(commands, c)
	}
	for i, o := range l {
		switch o.Kind {
		case api.OpLayer:
			add(api.Cmd{Code: api.CoTravel, Has: api.HasZ, Z: o.Z}, s.Travel)
		case api.OpRetract, api.OpPrime:
			add(api.Cmd{Code: api.CoPrint, Has: api.HasE, E: amounts[i]}, 0)
		case api.OpTravel, api.OpPrint:
			for k, c := range o.Cells {
				before, c2 := nozzle, c
				if k > 0 {
					before = o.Cells[k-1]
				}
				if o.Kind == api.OpPrint {
					printed++
				}
				e := printed * s.Pitch * s.Pitch * s.Height / s.Drop
				if o.Kind == api.OpPrint && k == 0 && c == nozzle {
					add(api.Cmd{Code: api.CoPrint, Has: api.HasE, E: e}, o.Speed*s.Pitch)
					continue
				}
				if k < len(o.Cells)-1 {
					c2 = o.Cells[k+1]
					if c2.X-c.X == c.X-before.X && c2.Y-c.Y == c.Y-before.Y {
						continue
					}
				}
				at := raster.Center(c, s.Pitch)
				move := api.Cmd{Code: api.CoTravel, Has: api.HasX | api.HasY, X: at.X, Y: at.Y}
				if o.Kind == api.OpPrint {
					move.Code, move.Has, move.E = api.CoPrint, move.Has|api.HasE, e
				}
				add(move, o.Speed*s.Pitch)
			}
			if len(o.Cells) > 0 {
				nozzle = o.Cells[len(o.Cells)-1]
			}
		case api.OpFan:
			if o.Speed == 0 {
				add(api.Cmd{Code: api.CoFanOff}, 0)
			} else {
				add(api.Cmd{Code: api.CoFan, Has: api.HasS, S: o.Speed}, 0)
			}
		}
	}
	return commands
}

// randomPlan returns the operations of random layers.
func randomPlan(random *rand.Rand, s api.Settings) []api.Op {
	var l []api.Region
	for range 1 + random.Intn(3) {
		var r api.Region
		for range 1 + random.Intn(3) {
			row := api.Run{From: random.Intn(9)}
			row.To = row.From + 1 + random.Intn(9)
			y := random.Intn(5)
			for range 1 + random.Intn(6) {
				r = region.Union(r, api.Region{Rows: []api.Row{{Y: y, Runs: []api.Run{row}}}})
				y++
			}
		}
		l = append(l, r)
	}
	ops, e := toolpath.Path(l, make([]api.Region, len(l)), s)
	if e != api.OK {
		panic("no path")
	}
	return ops
}

// P40.2, P40.3, P40.4.
func TestPlans(t *testing.T) {
	random := rand.New(rand.NewSource(40))
	for range 150 {
		s := settings()
		s.Pattern, s.Spacing, s.Brim, s.Retract, s.MinTime, s.Drop = random.Intn(4), 1+random.Intn(3), random.Intn(2), random.Intn(3), random.Intn(4000), 1+random.Intn(40000)
		l := randomPlan(random, s)
		got, e := Commands(l, s)
		if want := literal(l, s); !slices.Equal(got, want) || e != api.OK {
			t.Errorf("Commands(%v, %v) = %q, %d; want %q", l, s, text(got), e, text(want))
		}
		amounts, _ := flow.Amounts(l, s)
		var cellsOf []api.Cell
		for _, o := range l {
			cellsOf = append(cellsOf, o.Cells...)
		}
		at, last := raster.Center(api.Cell{}, s.Pitch), 0
		passed := []api.Cell{{}}
		for _, c := range got {
			if !gcode.Valid(c) {
				t.Errorf("the command %v", c)
			}
			if c.Has&api.HasE != 0 {
				last = c.E
			}
			if c.Has&api.HasX == 0 {
				continue
			}
			if (c.X != at.X) == (c.Y != at.Y) {
				t.Errorf("from %v to %d, %d", at, c.X, c.Y)
			}
			for at != (api.Pt{X: c.X, Y: c.Y}) {
				at = api.Pt{X: at.X + min(s.Pitch, max(-s.Pitch, c.X-at.X)), Y: at.Y + min(s.Pitch, max(-s.Pitch, c.Y-at.Y))}
				passed = append(passed, api.Cell{X: (at.X - s.Pitch/2) / s.Pitch, Y: (at.Y - s.Pitch/2) / s.Pitch})
			}
		}
		want := slices.Compact(append([]api.Cell{{}}, cellsOf...))
		if last != amounts[len(amounts)-1] || !slices.Equal(passed, want) {
			t.Errorf("E ends at %d, not %d; the cells are %v, not %v", last, amounts[len(amounts)-1], passed, want)
		}
	}
}

// P40.2: lists of operations that are not continuous.
func TestAnyOperations(t *testing.T) {
	random := rand.New(rand.NewSource(41))
	for range 1000 {
		var l []api.Op
		back := false
		for range random.Intn(8) {
			o := op([]int{api.OpLayer, api.OpTravel, api.OpPrint, api.OpPrint, api.OpFan, 7, api.OpRetract}[random.Intn(7)], 1+random.Intn(4))
			if back && (o.Kind == api.OpPrint || o.Kind == api.OpRetract) {
				o.Kind = api.OpPrime
			}
			back = o.Kind == api.OpRetract || back && o.Kind != api.OpPrime
			for range random.Intn(6) {
				o.Cells = append(o.Cells, api.Cell{X: random.Intn(3), Y: random.Intn(2)})
			}
			l = append(l, o)
		}
		got, e := Commands(l, settings())
		if want := literal(l, settings()); !slices.Equal(got, want) || e != api.OK {
			t.Errorf("Commands(%v) = %q, %d; want %q", l, text(got), e, text(want))
		}
	}
}
