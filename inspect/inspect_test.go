package inspect

import (
	"math"
	"math/rand"
	"testing"

	"additive/api"
	"additive/hatch"
	"additive/region"
)

const edge = api.MaxCell

// read returns the region of a picture whose last line begins at (x, y).
func read(x, y int, lines ...string) api.Region {
	text := ""
	for _, line := range lines {
		text += line + "\n"
	}
	r, e := region.Read(text, api.Cell{X: x, Y: y})
	if e != api.OK {
		panic("wrong picture")
	}
	return r
}

func invalid() api.Region {
	return api.Region{Rows: []api.Row{{Y: 0, Runs: []api.Run{{From: 2, To: 2}}}}}
}

// P56.1, P56.2.
func TestMissingAndOutside(t *testing.T) {
	row := read(0, 0, "##########")
	for i, q := range []struct {
		slice, made api.Region
		spacing     int
		missing     api.Region
		outside     api.Region
	}{
		{row, read(4, 0, "#"), 4, read(9, 0, "#"), api.Region{}}, {row, read(4, 0, "#"), 5, api.Region{}, api.Region{}}, {row, read(4, 0, "#"), 0, read(0, 0, "####.#####"), api.Region{}},
		{row, api.Region{}, 64, row, api.Region{}}, {api.Region{}, row, 0, api.Region{}, row}, {row, row, 0, api.Region{}, api.Region{}}, {row, read(5, 2, "#"), 2, read(0, 0, "###.....##"), read(5, 2, "#")}, {row, read(5, 3, "#"), 2, row, read(5, 3, "#")},
		{row, read(5, -2, "##"), 1, row, read(5, -2, "##")}, {row, read(8, -1, "#", "#", "#"), 1, read(0, 0, "#######"), read(8, -1, "#", ".", "#")},
		{row, row, -1, api.Region{}, api.Region{}}, {row, api.Region{}, 65, api.Region{}, api.Region{}}, {row, api.Region{}, math.MinInt, api.Region{}, api.Region{}}, {row, api.Region{}, math.MaxInt, api.Region{}, api.Region{}},
		{invalid(), read(4, 0, "#"), 0, api.Region{}, api.Region{}}, {row, invalid(), 0, api.Region{}, api.Region{}},
		// At the border of the grid.
		{read(-edge, -edge, "#.#"), read(-edge, -edge, "#"), 1, read(-edge+2, -edge, "#"), api.Region{}}, {read(edge-3, edge-1, "#.#"), read(edge-1, edge-1, "#"), 64, api.Region{}, api.Region{}},
	} {
		if got := Missing(q.slice, q.made, q.spacing); !region.Same(got, q.missing) {
			t.Errorf("case %d: Missing = %v; want %v", i, got, q.missing)
		}
		if got := Outside(q.slice, q.made); !region.Same(got, q.outside) {
			t.Errorf("case %d: Outside = %v; want %v", i, got, q.outside)
		}
	}
	kept := Missing(row, api.Region{}, 0)
	kept.Rows[0].Runs[0].To = 3
	if !region.Same(row, read(0, 0, "##########")) {
		t.Error("the result shares memory with the slice")
	}
}

// P56.3.
func TestLoose(t *testing.T) {
	one, far := read(0, 0, "#"), read(3, 0, "#")
	for i, q := range []struct {
		l     []api.Region
		reach int
		want  []api.Region
	}{
		{nil, 0, nil}, {[]api.Region{one}, 0, []api.Region{{}}}, {[]api.Region{{}, one}, 0, []api.Region{{}, one}}, {[]api.Region{{}, one}, 64, []api.Region{{}, one}}, {[]api.Region{one, one}, 0, []api.Region{{}, {}}},
		{[]api.Region{one, far, one}, 2, []api.Region{{}, far, one}}, {[]api.Region{one, far, one}, 3, []api.Region{{}, {}, {}}}, {[]api.Region{one, region.Union(one, far)}, 2, []api.Region{{}, far}},
		{[]api.Region{one, far}, -1, []api.Region{{}, {}}}, {[]api.Region{one, far}, 65, []api.Region{{}, {}}}, {[]api.Region{invalid(), one, far}, 0, []api.Region{{}, {}, far}}, {[]api.Region{one, invalid(), far}, 0, []api.Region{{}, {}, {}}},
	} {
		got := Loose(q.l, q.reach)
		if !Equal(got, q.want) {
			t.Errorf("case %d: Loose = %v; want %v", i, got, q.want)
		}
	}
}

// P56.4.
func TestEqual(t *testing.T) {
	one, far := read(0, 0, "#"), read(3, 0, "#")
	for i, q := range []struct {
		a, b []api.Region
		want bool
	}{
		{nil, nil, true}, {nil, []api.Region{}, true}, {nil, []api.Region{{}}, false}, {[]api.Region{one, {}}, []api.Region{one, {}}, true}, {[]api.Region{one, far}, []api.Region{far, one}, false}, {[]api.Region{one}, []api.Region{one, one}, false},
		{[]api.Region{one, invalid()}, []api.Region{one, invalid()}, false}, {[]api.Region{one, invalid()}, []api.Region{one, {}}, false},
	} {
		if Equal(q.a, q.b) != q.want || Equal(q.b, q.a) != q.want {
			t.Errorf("case %d: Equal = %v", i, !q.want)
		}
	}
}

// P56.1 to P56.3: cell by cell.
func TestAnyRegions(t *testing.T) {
	random := rand.New(rand.NewSource(56))
	randomRegion := func(density int) api.Region {
		var l []api.Cell
		for x := range 12 {
			for y := range 8 {
				if random.Intn(40) < density {
					l = append(l, api.Cell{X: x - edge, Y: y - 4})
				}
			}
		}
		r, _ := region.Of(l)
		return r
	}
	found := 0
	for range 500 {
		slice, made, k := randomRegion(10+random.Intn(30)), randomRegion(random.Intn(6)), random.Intn(5)
		picture := region.Picture(slice)
		var l, out []api.Cell
		for _, c := range region.Cells(slice) {
			close := false
			for _, d := range region.Cells(made) {
				close = close || max(c.X-d.X, d.X-c.X, c.Y-d.Y, d.Y-c.Y) <= k
			}
			if !close {
				l = append(l, c)
			}
		}
		for _, c := range region.Cells(made) {
			if !region.Contains(slice, c) {
				out = append(out, c)
			}
		}
		want, _ := region.Of(l)
		outside, _ := region.Of(out)
		found += len(l)
		got := Missing(slice, made, k)
		if !region.Same(got, want) || !region.Same(Outside(slice, made), outside) || region.Picture(slice) != picture {
			t.Errorf("Missing(%v, %v, %d) = %v; want %v", slice, made, k, got, want)
		}
		if len(made.Rows) > 0 && (len(got.Rows) == 0) != (hatch.Far(slice, made) <= k) || !region.Within(Missing(slice, made, k+1), got) {
			t.Errorf("Missing(%v, %v, %d) = %v, but Far is %d", slice, made, k, got, hatch.Far(slice, made))
		}
		if loose := Loose([]api.Region{made, slice}, k); !region.Same(loose[1], want) || len(loose[0].Rows) > 0 {
			t.Errorf("Loose of %v and %v with %d = %v", made, slice, k, loose)
		}
	}
	if found < 1000 {
		t.Errorf("only %d cells are missing", found)
	}
}
