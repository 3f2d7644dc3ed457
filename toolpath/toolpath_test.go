package toolpath

import (
	"math"
	"math/rand"
	"slices"
	"testing"

	"additive/api"
	"additive/comb"
	"additive/cool"
	"additive/layer"
	"additive/order"
	"additive/region"
	"additive/support"
	"additive/track"
)

const edge = api.MaxCell

func settings() api.Settings {
	return api.Settings{Pitch: 40, Height: 20, Walls: 1, Top: 1, Bottom: 1, Spacing: 2, Drop: 1000, Feed: 4000, Travel: 8000, Retract: 5, MinFeed: 40}
}

// cells returns cells whose coordinates are given in pairs.
func cells(coordinates ...int) []api.Cell {
	l := []api.Cell{}
	for i := 0; i < len(coordinates); i += 2 {
		l = append(l, api.Cell{X: coordinates[i], Y: coordinates[i+1]})
	}
	return l
}

// rectangle returns the cells from (x, y) to (u, v).
func rectangle(x, y, u, v int) api.Region {
	var r api.Region
	for ; y <= v; y++ {
		r.Rows = append(r.Rows, api.Row{Y: y, Runs: []api.Run{{From: x, To: u + 1}}})
	}
	return r
}

func invalid() api.Region {
	return api.Region{Rows: []api.Row{{Y: 0}}}
}

func wall(coordinates ...int) api.Track {
	return api.Track{Role: api.RoWall, Cells: cells(coordinates...)}
}

func same(a, b api.Op) bool {
	return a.Kind == b.Kind && a.Role == b.Role && a.Layer == b.Layer && a.Z == b.Z && a.Speed == b.Speed && slices.Equal(a.Cells, b.Cells)
}

func travel(coordinates ...int) api.Op {
	return api.Op{Kind: api.OpTravel, Speed: 200, Cells: cells(coordinates...)}
}

func printed(coordinates ...int) api.Op {
	return api.Op{Kind: api.OpPrint, Role: api.RoWall, Speed: 100, Cells: cells(coordinates...)}
}

func kind(k int) api.Op { return api.Op{Kind: k} }

// P38.1.
func TestLayer(t *testing.T) {
	free := settings()
	free.Retract = 0
	slow := settings()
	slow.Feed, slow.Travel, slow.MinFeed = 39, 1, 1
	cold := settings()
	cold.MinTime = 40
	begin, fan := api.Op{Kind: api.OpLayer, Z: 20}, kind(api.OpFan)
	slowTravel, slowPrint, coolPrint := travel(1, 0), printed(1, 0, 2, 0), printed(1, 0, 2, 0)
	slowTravel.Speed, slowPrint.Speed, coolPrint.Speed = 1, 1, 58
	row := rectangle(0, 0, 2, 0)
	for i, q := range []struct {
		l    []api.Track
		r    api.Region
		i    int
		from api.Cell
		s    api.Settings
		want []api.Op
		end  api.Cell
	}{
		{[]api.Track{wall(1, 0, 2, 0)}, row, 0, api.Cell{}, settings(), []api.Op{begin, fan, travel(1, 0), printed(1, 0, 2, 0)}, api.Cell{X: 2}},
		{nil, row, 3, api.Cell{X: 5}, settings(), []api.Op{{Kind: api.OpLayer, Layer: 3, Z: 80}, {Kind: api.OpFan, Speed: 255}}, api.Cell{X: 5}},
		{[]api.Track{wall(0, 0, 1, 0)}, row, 0, api.Cell{}, settings(), []api.Op{begin, fan, printed(0, 0, 1, 0)}, api.Cell{X: 1}},
		{[]api.Track{wall(2, 0, 1, 0)}, row, 0, api.Cell{}, settings(), []api.Op{begin, fan, travel(1, 0), printed(1, 0, 2, 0)}, api.Cell{X: 2}},
		// Without a path the filament is drawn back, unless Retract is 0.
		{[]api.Track{wall(2, 1)}, row, 0, api.Cell{X: 1}, settings(), []api.Op{begin, fan, kind(api.OpRetract), travel(2, 0, 2, 1), kind(api.OpPrime), printed(2, 1)}, api.Cell{X: 2, Y: 1}},
		{[]api.Track{wall(2, 1)}, row, 0, api.Cell{X: 1}, free, []api.Op{begin, fan, travel(2, 0, 2, 1), printed(2, 1)}, api.Cell{X: 2, Y: 1}},
		{[]api.Track{wall(1, 0, 2, 0)}, row, 0, api.Cell{}, slow, []api.Op{begin, fan, slowTravel, slowPrint}, api.Cell{X: 2}},
		{[]api.Track{wall(1, 0, 2, 0)}, row, 0, api.Cell{}, cold, []api.Op{begin, fan, travel(1, 0), coolPrint}, api.Cell{X: 2}},
		// A closed track is left at its last cell.
		{
			[]api.Track{{Role: api.RoWall, Closed: true, Cells: cells(0, 0, 1, 0, 1, 1, 0, 1)}}, row, 0, api.Cell{X: 2}, settings(),
			[]api.Op{begin, fan, travel(1, 0), printed(1, 0, 1, 1, 0, 1, 0, 0)}, api.Cell{},
		},
	} {
		got, end, e := Layer(q.l, q.r, q.i, q.from, q.s)
		if !slices.EqualFunc(got, q.want, same) || end != q.end || e != api.OK {
			t.Errorf("case %d: Layer = %v, %v, %d; want %v, %v", i, got, end, e, q.want, q.end)
		}
	}
}

// P38.1: arguments that are not valid.
func TestLayerErrors(t *testing.T) {
	l, r := []api.Track{wall(0, 0)}, rectangle(0, 0, 2, 0)
	for i, q := range []struct {
		l    []api.Track
		r    api.Region
		i    int
		from api.Cell
		s    api.Settings
		e    api.Errno
	}{
		{l, r, 255, api.Cell{X: edge - 1, Y: -edge}, settings(), api.OK}, {l, r, 0, api.Cell{X: -edge, Y: edge - 1}, settings(), api.OK}, {l, r, 0, api.Cell{Y: edge}, settings(), api.ErrArg},
		{l, r, 256, api.Cell{}, settings(), api.ErrArg}, {l, r, -1, api.Cell{}, settings(), api.ErrArg}, {l, r, math.MaxInt, api.Cell{}, settings(), api.ErrArg},
		{l, r, 0, api.Cell{X: edge}, settings(), api.ErrArg}, {l, r, 0, api.Cell{Y: -edge - 1}, settings(), api.ErrArg}, {l, r, 0, api.Cell{Y: math.MaxInt}, settings(), api.ErrArg},
		{l, r, 0, api.Cell{}, api.Settings{}, api.ErrArg}, {l, invalid(), 0, api.Cell{}, settings(), api.ErrArg}, {[]api.Track{l[0], {}}, r, 0, api.Cell{}, settings(), api.ErrArg},
	} {
		got, end, e := Layer(q.l, q.r, q.i, q.from, q.s)
		if e != q.e || e != api.OK && (len(got) != 0 || end != api.Cell{}) {
			t.Errorf("case %d: Layer = %v, %v, %d; want %d", i, got, end, e, q.e)
		}
	}
}

// literal makes the operations of a layer by the definition.
func literal(l []api.Track, r api.Region, i int, from api.Cell, s api.Settings) ([]api.Op, api.Cell) {
	ops := []api.Op{{Kind: api.OpLayer, Layer: i, Z: (i + 1) * s.Height}, {Kind: api.OpFan, Speed: 255 * min(i, 1)}}
	for len(l) > 0 {
		n := 1
		for n < len(l) && l[n].Role == l[0].Role {
			n++
		}
		for _, o := range order.Improve(from, order.Greedy(from, l[:n]), 8) {
			if to := o.Cells[0]; from != to {
				move := api.Op{Kind: api.OpTravel, Speed: max(1, s.Travel/s.Pitch)}
				if path, ok := comb.Path(r, from, to); ok {
					move.Cells = path[1:]
					ops = append(ops, move)
				} else {
					move.Cells = comb.Straight(from, to)[1:]
					if s.Retract > 0 {
						ops = append(ops, kind(api.OpRetract), move, kind(api.OpPrime))
					} else {
						ops = append(ops, move)
					}
				}
			}
			ops = append(ops, api.Op{Kind: api.OpPrint, Role: o.Role, Speed: max(1, s.Feed/s.Pitch), Cells: o.Cells})
			from = o.Cells[len(o.Cells)-1]
		}
		l = l[n:]
	}
	return cool.Slow(ops, s), from
}

func compare(a, b api.Cell) int {
	if a.Y != b.Y {
		return a.Y - b.Y
	}
	return a.X - b.X
}

// P38.1 to P38.5: plans of random layers.
func TestPath(t *testing.T) {
	random := rand.New(rand.NewSource(38))
	retracted := 0
	for range 60 {
		s := settings()
		s.Walls, s.Top, s.Bottom, s.Pattern, s.Spacing = random.Intn(3), random.Intn(2), random.Intn(2), random.Intn(4), 1+random.Intn(3)
		s.Brim, s.Skirt, s.Retract, s.MinTime, s.Travel = random.Intn(3), random.Intn(3), random.Intn(2), random.Intn(3000), 1+random.Intn(9000)
		var l []api.Region
		for range random.Intn(4) {
			var r api.Region
			for range random.Intn(4) {
				x, y := random.Intn(12), random.Intn(12)
				r = region.Union(r, rectangle(x, y, x+random.Intn(9), y+random.Intn(9)))
			}
			l = append(l, r)
		}
		supports, _ := support.Supports(l, 1, 1)
		got, e := Path(l, supports, s)
		if e != api.OK || Check(got) != api.OK {
			t.Fatalf("Path(%v, %v, %v): error %d, Check %d", l, supports, s, e, Check(got))
		}
		var want []api.Op
		at := api.Cell{}
		for i, r := range l {
			tracks, _ := layer.Tracks(l, supports, i, s)
			ops, end := literal(tracks, r, i, at, s)
			one, oneEnd, e := Layer(tracks, r, i, at, s)
			if !slices.EqualFunc(one, ops, same) || oneEnd != end || e != api.OK {
				t.Errorf("Layer(%v, %v, %d, %v, %v) = %v, %v, %d; want %v, %v", tracks, r, i, at, s, one, oneEnd, e, ops, end)
			}
			want, at = append(want, ops...), end
			covered := Printed(got, i)
			slices.SortFunc(covered, compare)
			if !slices.Equal(covered, region.Cells(track.Cover(tracks))) {
				t.Errorf("layer %d of Path(%v, %v, %v) has the cells %v", i, l, supports, s, covered)
			}
		}
		if !slices.EqualFunc(got, want, same) {
			t.Errorf("Path(%v, %v, %v) = %v; want %v", l, supports, s, got, want)
		}
		current, back := 0, false
		for _, o := range got {
			current = max(current, o.Layer)
			back = o.Kind == api.OpRetract || back && o.Kind != api.OpPrime
			if o.Kind == api.OpTravel && s.Retract > 0 && !back && !region.Within(track.Cover([]api.Track{{Role: api.RoWall, Cells: o.Cells}}), l[current]) {
				t.Errorf("layer %d of Path(%v, %v, %v) has the travel %v", current, l, supports, s, o)
			}
			if o.Kind == api.OpRetract {
				retracted++
			}
		}
	}
	if retracted < 30 {
		t.Errorf("only %d travels are outside", retracted)
	}
}

// P38.1: the order of a group is improved so often, and not more often.
func TestRounds(t *testing.T) {
	random := rand.New(rand.NewSource(39))
	differ := 0
	for range 40 {
		var l []api.Track
		for range 60 {
			x, y := random.Intn(80), random.Intn(80)
			l = append(l, wall(x, y, x+1, y, x+2, y))
		}
		want := order.Improve(api.Cell{}, order.Greedy(api.Cell{}, l), 8)
		got, _, e := Layer(l, api.Region{}, 0, api.Cell{}, settings())
		var printed []api.Track
		for _, o := range got {
			if o.Kind == api.OpPrint {
				printed = append(printed, api.Track{Role: o.Role, Cells: o.Cells})
			}
		}
		equal := func(a, b []api.Track) bool {
			return slices.EqualFunc(a, b, func(p, q api.Track) bool { return slices.Equal(p.Cells, q.Cells) })
		}
		if e != api.OK || !equal(printed, want) {
			t.Errorf("Layer prints %v, %d; want %v", printed, e, want)
		}
		if !equal(want, order.Improve(api.Cell{}, want, 1)) {
			differ++
		}
	}
	if differ == 0 {
		t.Error("no order could be improved further")
	}
}

// P38.2: the errors, in their order.
func TestPathErrors(t *testing.T) {
	square := rectangle(0, 0, 4, 4)
	brim := settings()
	brim.Brim = 5
	for i, q := range []struct {
		l, supports []api.Region
		s           api.Settings
		e           api.Errno
	}{
		{nil, nil, settings(), api.OK}, {nil, nil, api.Settings{}, api.OK},
		{[]api.Region{square}, nil, settings(), api.ErrArg}, {nil, []api.Region{square}, settings(), api.ErrArg}, {make([]api.Region, 257), make([]api.Region, 256), settings(), api.ErrArg},
		{make([]api.Region, 257), make([]api.Region, 257), api.Settings{}, api.ErrLimit}, {make([]api.Region, 256), make([]api.Region, 256), settings(), api.OK},
		{[]api.Region{square}, []api.Region{{}}, api.Settings{}, api.ErrArg}, {[]api.Region{square, invalid()}, []api.Region{{}, {}}, settings(), api.ErrArg},
		{[]api.Region{rectangle(edge-2, 0, edge-1, 0)}, []api.Region{{}}, brim, api.ErrRange}, {[]api.Region{square}, []api.Region{{}}, brim, api.OK},
	} {
		if got, e := Path(q.l, q.supports, q.s); e != q.e || e != api.OK && len(got) != 0 {
			t.Errorf("case %d: Path = %v, %d; want %d", i, got, e, q.e)
		}
	}
}

// P38.3.
func TestPrinted(t *testing.T) {
	second := api.Op{Kind: api.OpLayer, Layer: 2}
	l := []api.Op{printed(9, 9), kind(api.OpLayer), printed(0, 0, 1, 0), travel(1, 1), printed(1, 1), second, printed(5, 5), kind(api.OpLayer), printed(0, 0), second, kind(api.OpLayer)}
	for n, want := range map[int][]api.Cell{0: cells(0, 0, 1, 0, 1, 1, 0, 0), 2: cells(5, 5), 1: nil, -1: nil, math.MaxInt: nil} {
		if got := Printed(l, n); !slices.Equal(got, want) {
			t.Errorf("Printed of layer %d = %v; want %v", n, got, want)
		}
	}
	if got := Printed(nil, 0); len(got) != 0 {
		t.Errorf("Printed of nothing = %v", got)
	}
	negative := []api.Op{{Kind: api.OpLayer, Layer: -7}, printed(3, 3)}
	if got := Printed(negative, -7); !slices.Equal(got, cells(3, 3)) {
		t.Errorf("Printed of layer -7 = %v", got)
	}
}

// P38.4.
func TestCheck(t *testing.T) {
	begin, back, forward, fan := kind(api.OpLayer), kind(api.OpRetract), kind(api.OpPrime), kind(api.OpFan)
	empty := kind(api.OpFan)
	empty.Cells = cells(edge, 0)
	for i, q := range []struct {
		l []api.Op
		e api.Errno
	}{
		{nil, api.OK}, {[]api.Op{begin}, api.OK}, {[]api.Op{begin, fan, begin, fan}, api.OK}, {[]api.Op{begin, printed(0, 0, 1, 0), travel(1, 1, 2, 1), printed(2, 1)}, api.OK},
		{[]api.Op{begin, back, travel(0, 1), forward, printed(0, 1), back}, api.OK}, {[]api.Op{begin, back, begin, fan, forward}, api.OK},
		{[]api.Op{fan}, api.ErrOrder}, {[]api.Op{printed(0, 0)}, api.ErrOrder},
		{[]api.Op{begin, printed()}, api.ErrOrder}, {[]api.Op{begin, travel()}, api.ErrOrder}, {[]api.Op{begin, printed(1, 0)}, api.ErrOrder}, {[]api.Op{begin, travel(0, 0)}, api.ErrOrder},
		{[]api.Op{begin, travel(1, 1)}, api.ErrOrder}, {[]api.Op{begin, travel(0, 1, 0, 2, 0, 2)}, api.ErrOrder}, {[]api.Op{begin, printed(0, 0, 0, 1, 1, 2)}, api.ErrOrder},
		{[]api.Op{begin, printed(0, 0), printed(0, 0)}, api.OK}, {[]api.Op{begin, printed(0, 0, 0, 1), printed(0, 0)}, api.ErrOrder},
		{[]api.Op{begin, forward}, api.ErrOrder}, {[]api.Op{begin, back, back}, api.ErrOrder}, {[]api.Op{begin, back, forward, forward}, api.ErrOrder},
		{[]api.Op{begin, back, printed(0, 0), forward}, api.ErrOrder}, {[]api.Op{begin, back, printed(0, 0)}, api.ErrOrder},
		{[]api.Op{fan, kind(0)}, api.ErrArg}, {[]api.Op{fan, kind(7)}, api.ErrArg}, {[]api.Op{begin, kind(-1)}, api.ErrArg},
		{[]api.Op{begin, empty}, api.ErrArg}, {[]api.Op{fan, travel(0, -edge-1)}, api.ErrArg}, {[]api.Op{begin, travel(0, 1, 0, math.MaxInt)}, api.ErrArg},
	} {
		if e := Check(q.l); e != q.e {
			t.Errorf("case %d: Check(%v) = %d; want %d", i, q.l, e, q.e)
		}
	}
}
