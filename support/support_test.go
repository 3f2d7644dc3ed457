package support

import (
	"math"
	"math/rand"
	"slices"
	"testing"

	"additive/api"
	"additive/morph"
	"additive/region"
)

const edge = api.MaxCell

// read returns the region of a picture whose last line begins at (x, y).
func read(x, y int, lines ...string) api.Region {
	text := ""
	for _, line := range lines {
		text += line + "\n"
	}
	r, e := region.Read(text, api.Cell{X: x, Y: y})
	if e != api.OK {
		panic("wrong picture")
	}
	return r
}

func invalid() api.Region {
	return api.Region{Rows: []api.Row{{Y: edge, Runs: []api.Run{{From: 0, To: 5}}}}}
}

func equal(a, b []api.Region) bool {
	return slices.EqualFunc(a, b, region.Same)
}

// P31.1.
func TestOverhang(t *testing.T) {
	for _, q := range []struct {
		r, below api.Region
		reach    int
		want     api.Region
		e        api.Errno
	}{
		{read(0, 0, "####"), read(0, 0, "#"), 1, read(2, 0, "##"), api.OK},
		{read(0, 0, "####"), read(0, 0, "#"), 0, read(1, 0, "###"), api.OK},
		{read(0, 0, "####"), read(0, 0, "#"), 3, api.Region{}, api.OK},
		{read(0, 0, "###", "###", "###"), read(0, 0, "#"), 1, read(0, 0, "###", "..#", "..#"), api.OK},
		{read(0, 0, "####"), api.Region{}, 5, read(0, 0, "####"), api.OK},
		{api.Region{}, read(0, 0, "#"), 5, api.Region{}, api.OK},
		{read(edge-1, 0, "#"), read(0, 0, "#"), 64, read(edge-1, 0, "#"), api.OK},
		{invalid(), read(edge-1, 0, "#"), 5, api.Region{}, api.ErrArg},
		{invalid(), read(edge-1, 0, "#"), -5, api.Region{}, api.ErrArg},
		{read(0, 0, "#"), invalid(), 5, api.Region{}, api.ErrArg},
		{read(0, 0, "#"), read(0, 0, "#"), -1, api.Region{}, api.ErrArg},
		{read(0, 0, "#"), read(0, 0, "#"), 65, api.Region{}, api.ErrArg},
		{read(0, 0, "#"), read(edge-1, 0, "#"), 5, api.Region{}, api.ErrRange},
		{read(0, 0, "#"), read(edge-1, 0, "#"), math.MaxInt, api.Region{}, api.ErrArg},
	} {
		if got, e := Overhang(q.r, q.below, q.reach); !region.Same(got, q.want) || e != q.e {
			t.Errorf("Overhang(%v, %v, %d) = %v, %d; want %v, %d", q.r, q.below, q.reach, got, e, q.want, q.e)
		}
	}
}

// P31.2.
func TestSupports(t *testing.T) {
	table := []api.Region{read(4, 0, "#"), read(4, 0, "#"), read(0, 0, "#########"), read(0, 0, "#########")}
	for _, q := range []struct {
		l          []api.Region
		reach, gap int
		want       []api.Region
	}{
		{nil, 0, 0, nil},
		{nil, 64, 64, nil},
		{[]api.Region{read(edge-1, 0, "#")}, 5, 5, []api.Region{{}}},
		{[]api.Region{read(0, 0, "#"), read(0, 0, "####")}, 1, 2, []api.Region{read(3, 0, "#"), {}}},
		{[]api.Region{read(0, 0, "#"), read(0, 0, "####")}, 1, 0, []api.Region{read(2, 0, "##"), {}}},
		{table, 1, 1, []api.Region{read(0, 0, "###...###"), read(0, 0, "###...###"), {}, {}}},
		{table, 1, 2, []api.Region{read(0, 0, "##.....##"), read(0, 0, "##.....##"), {}, {}}},
		{table, 2, 0, []api.Region{read(0, 0, "##.....##"), read(0, 0, "##.....##"), {}, {}}},
		// A support ends on a part that is below it, and keeps away from one beside it.
		{[]api.Region{read(0, 0, "##..."), read(0, 0, "#.##."), {}, read(0, 0, "#####")}, 0, 0, []api.Region{read(2, 0, "###"), read(1, 0, "#..#"), read(0, 0, "#####"), {}}},
		{[]api.Region{{}, {}, read(0, 0, "##")}, 3, 3, []api.Region{read(0, 0, "##"), read(0, 0, "##"), {}}},
		// The top layer is not dilated.
		{[]api.Region{read(0, 0, "#"), read(edge-1, 0, "#")}, 64, 64, []api.Region{read(edge-1, 0, "#"), {}}},
	} {
		if got, e := Supports(q.l, q.reach, q.gap); !equal(got, q.want) || e != api.OK {
			t.Errorf("Supports(%v, %d, %d) = %v, %d; want %v", q.l, q.reach, q.gap, got, e, q.want)
		}
	}
}

// P31.2: the errors, in their order.
func TestErrors(t *testing.T) {
	many := make([]api.Region, api.MaxLayers+1)
	high := []api.Region{read(edge-3, 0, "#"), read(0, 0, "#")}
	for _, q := range []struct {
		l          []api.Region
		reach, gap int
		e          api.Errno
	}{
		{many[1:], 1, 1, api.OK}, {many, 1, 1, api.ErrLimit}, {append([]api.Region{invalid()}, many...), -1, 1, api.ErrLimit},
		{nil, -1, 0, api.ErrArg}, {nil, 0, -1, api.ErrArg}, {nil, 65, 0, api.ErrArg}, {nil, 0, 65, api.ErrArg}, {nil, math.MinInt, math.MaxInt, api.ErrArg},
		{[]api.Region{invalid()}, 1, 1, api.ErrArg}, {append(high, invalid()), 5, 5, api.ErrArg}, {append([]api.Region{invalid()}, high...), 5, 5, api.ErrArg}, {high, 5, 65, api.ErrArg},
		{high, 2, 2, api.OK}, {high, 3, 2, api.ErrRange}, {high, 2, 3, api.ErrRange}, {high[:1], 64, 64, api.OK},
	} {
		if got, e := Supports(q.l, q.reach, q.gap); e != q.e || e != api.OK && len(got) != 0 || e == api.OK && len(got) != len(q.l) {
			t.Errorf("Supports of %d layers with %d and %d: %v, error %d; want %d", len(q.l), q.reach, q.gap, got, e, q.e)
		}
	}
}

// P31.1 to P31.5.
func TestAnyLayers(t *testing.T) {
	random := rand.New(rand.NewSource(31))
	supported := 0
	for range 400 {
		var l []api.Region
		for range random.Intn(6) {
			var cells []api.Cell
			density := 1 + random.Intn(5)
			for x := range 12 {
				for y := range 4 {
					if random.Intn(6) < density {
						cells = append(cells, api.Cell{X: x, Y: y})
					}
				}
			}
			r, _ := region.Of(cells)
			l = append(l, r)
		}
		reach, gap := random.Intn(3), random.Intn(3)
		got, e := Supports(l, reach, gap)
		if e != api.OK || len(got) != len(l) {
			t.Fatalf("Supports(%v, %d, %d) = %v, %d", l, reach, gap, got, e)
		}
		more, _ := Supports(l, reach+1, gap)
		for i, s := range got {
			supported += region.Count(s)
			if i == len(l)-1 {
				if len(s.Rows) > 0 {
					t.Errorf("the top layer has the support %v", s)
				}
				continue
			}
			held, _ := morph.Dilate(l[i], reach)
			near, _ := morph.Dilate(l[i], gap)
			needed := region.Union(got[i+1], region.Subtract(l[i+1], held))
			if !region.Same(s, region.Subtract(needed, near)) {
				t.Errorf("Supports(%v, %d, %d) has %v for the layer %d", l, reach, gap, s, i)
			}
			if overhang, e := Overhang(l[i+1], l[i], reach); e != api.OK || !region.Within(overhang, region.Union(s, near)) || !region.Within(got[i+1], region.Union(s, near)) {
				t.Errorf("Supports(%v, %d, %d) do not hold the layer %d", l, reach, gap, i+1)
			}
			if len(region.Intersect(s, near).Rows) > 0 || !region.Within(more[i], s) {
				t.Errorf("Supports(%v, %d, %d) has %v for the layer %d, and with more reach %v", l, reach, gap, s, i, more[i])
			}
		}
	}
	if supported < 1000 {
		t.Errorf("only %d cells of supports", supported)
	}
}
