package hatch

import (
	"math"
	"math/rand"
	"slices"
	"testing"

	"additive/api"
	"additive/morph"
	"additive/region"
	"additive/ringwalk"
	"additive/track"
)

const edge = api.MaxCell

// read returns the region of a picture whose last line begins at (x, y).
func read(x, y int, lines ...string) api.Region {
	text := ""
	for _, line := range lines {
		text += line + "\n"
	}
	r, e := region.Read(text, api.Cell{X: x, Y: y})
	if e != api.OK {
		panic("wrong picture")
	}
	return r
}

// cells returns cells whose coordinates are given in pairs.
func cells(coordinates ...int) []api.Cell {
	l := []api.Cell{}
	for i := 0; i < len(coordinates); i += 2 {
		l = append(l, api.Cell{X: coordinates[i], Y: coordinates[i+1]})
	}
	return l
}

// rectangle returns the cells from (x, y) to (u, v).
func rectangle(x, y, u, v int) api.Region {
	var r api.Region
	for ; y <= v; y++ {
		r.Rows = append(r.Rows, api.Row{Y: y, Runs: []api.Run{{From: x, To: u + 1}}})
	}
	return r
}

func invalid() api.Region {
	return api.Region{Rows: []api.Row{{Y: 0, Runs: []api.Run{{From: 0, To: 2}, {From: 1, To: 5}}}}}
}

func same(a, b api.Track) bool {
	return a.Role == b.Role && a.Closed == b.Closed && slices.Equal(a.Cells, b.Cells)
}

// tracks returns open tracks with a role.
func tracks(role int, l ...[]api.Cell) []api.Track {
	var t []api.Track
	for _, cells := range l {
		t = append(t, api.Track{Role: role, Cells: cells})
	}
	return t
}

// compare compares lists of tracks.
func compare(t *testing.T, what string, r api.Region, got, want []api.Track) {
	t.Helper()
	if !slices.EqualFunc(got, want, same) {
		t.Errorf("%s of\n%sis %v; want %v", what, region.Picture(r), got, want)
	}
}

// P29.1.
func TestRowsAndColumns(t *testing.T) {
	square := rectangle(0, 0, 4, 4)
	compare(t, "Rows", square, Rows(square, 2, 1), tracks(api.RoInfill, cells(0, 1, 1, 1, 2, 1, 3, 1, 4, 1), cells(0, 3, 1, 3, 2, 3, 3, 3, 4, 3)))
	compare(t, "Columns", square, Columns(square, 3, -4), tracks(api.RoInfill, cells(2, 0, 2, 1, 2, 2, 2, 3, 2, 4)))
	gaps := read(-2, -1, "##.##", ".....", "#.###")
	compare(t, "Rows", gaps, Rows(gaps, 2, 1), tracks(api.RoInfill, cells(-2, -1), cells(0, -1, 1, -1, 2, -1), cells(-2, 1, -1, 1), cells(1, 1, 2, 1)))
	compare(t, "Columns", gaps, Columns(gaps, 2, 0), tracks(api.RoInfill, cells(-2, -1), cells(-2, 1), cells(0, -1), cells(2, -1), cells(2, 1)))
	compare(t, "Columns", gaps, Columns(gaps, 3, 2), tracks(api.RoInfill, cells(-1, 1), cells(2, -1), cells(2, 1)))
	for _, phase := range []int{math.MinInt, math.MaxInt} {
		const rest = 2 // of both, modulo 5
		compare(t, "Rows", square, Rows(square, 5, phase), Rows(square, 5, rest))
		compare(t, "Columns", square, Columns(square, 5, phase), Columns(square, 5, rest))
		if l := Columns(rectangle(-edge, 0, 1-edge, 0), 64, phase); len(l) != map[int]int{math.MinInt: 1}[phase] {
			t.Errorf("Columns with the phase %d = %v", phase, l)
		}
	}
	for _, q := range []struct {
		r       api.Region
		spacing int
	}{{square, 0}, {square, -1}, {square, 65}, {square, math.MinInt}, {square, math.MaxInt}, {invalid(), 1}, {api.Region{}, 1}} {
		if len(Rows(q.r, q.spacing, 0)) != 0 || len(Columns(q.r, q.spacing, 0)) != 0 {
			t.Errorf("%v with the spacing %d has rows or columns", q.r, q.spacing)
		}
	}
}

// P29.2, P29.7.
func TestZigzag(t *testing.T) {
	for _, q := range []struct {
		r    api.Region
		want [][]api.Cell
	}{
		{api.Region{}, nil},
		{invalid(), nil},
		{rectangle(0, 0, 1, 1), [][]api.Cell{cells(0, 0, 1, 0, 1, 1, 0, 1)}},
		{rectangle(0, 0, 3, 1), [][]api.Cell{cells(0, 0, 1, 0, 2, 0, 3, 0, 3, 1, 2, 1, 1, 1, 0, 1)}},
		{rectangle(-1, -1, 0, 0), [][]api.Cell{cells(0, -1, -1, -1, -1, 0, 0, 0)}},
		{read(0, 0, "##.", ".##"), [][]api.Cell{cells(1, 0, 2, 0), cells(1, 1, 0, 1)}},
		{read(0, 1, "##.", ".##"), [][]api.Cell{cells(2, 1, 1, 1), cells(0, 2, 1, 2)}},
		{read(0, 0, "#.#", "#.#"), [][]api.Cell{cells(0, 0), cells(2, 0, 2, 1), cells(0, 1)}},
		{read(0, 1, "#.#", "#.#"), [][]api.Cell{cells(2, 1), cells(0, 1, 0, 2), cells(2, 2)}},
		{read(5, 7, "#", ".", "#"), [][]api.Cell{cells(5, 7), cells(5, 9)}},
		{read(edge-2, edge-2, "##", "##"), [][]api.Cell{cells(edge-2, edge-2, edge-1, edge-2, edge-1, edge-1, edge-2, edge-1)}},
	} {
		compare(t, "Zigzag", q.r, Zigzag(q.r), tracks(api.RoSkin, q.want...))
	}
	// As long as a track may be, and one row more.
	wide := rectangle(-edge, 0, edge-1, 8)
	got := Zigzag(wide)
	if len(got) != 2 || len(got[0].Cells) != api.MaxPath || len(got[1].Cells) != 2*edge || got[1].Cells[0] != (api.Cell{X: -edge, Y: 8}) {
		t.Errorf("Zigzag of many cells has %d tracks", len(got))
	}
}

// randomRegion returns cells of a rectangle, some of them at a border of the grid.
func randomRegion(random *rand.Rand) api.Region {
	width, height := 1+random.Intn(14), 1+random.Intn(14)
	at := api.Cell{X: []int{-5, -5, -edge, edge - width}[random.Intn(4)], Y: []int{-5, -5, -edge, edge - height}[random.Intn(4)]}
	density := 2 + random.Intn(30)
	sparse := random.Intn(3) == 0
	l := []api.Cell{}
	for x := range width {
		for y := range height {
			if random.Intn(density) > 0 != sparse {
				l = append(l, api.Cell{X: at.X + x, Y: at.Y + y})
			}
		}
	}
	r, _ := region.Of(l)
	return r
}

// distance returns the distance of a cell to the nearest one of a list; a great number for an empty list.
func distance(c api.Cell, l []api.Cell) int {
	least := math.MaxInt
	for _, d := range l {
		least = min(least, max(c.X-d.X, d.X-c.X, c.Y-d.Y, d.Y-c.Y))
	}
	return least
}

// lines returns the lines of a pattern, cell by cell.
func lines(r api.Region, kind, spacing, layer int) []api.Track {
	switch kind {
	case api.PaLines:
		if layer%2 == 0 {
			return Rows(r, spacing, 0)
		}
		return Columns(r, spacing, 0)
	case api.PaGrid:
		return track.Once(append(Rows(r, spacing, 0), Columns(r, spacing, 0)...))
	case api.PaRings:
		var l []api.Track
		for k := 0; len(r.Rows) > 0; k++ {
			for _, w := range ringwalk.Walk(r) {
				l = append(l, api.Track{Role: api.RoInfill, Closed: true, Cells: w.Cells})
			}
			r = morph.Erode(r, spacing)
		}
		return track.Once(l)
	}
	var l []api.Track
	low, high, _ := region.Box(r)
	for sum := -2 * edge; sum <= 2*edge; sum++ {
		if sum%(2*spacing) != 0 || sum < low.X+low.Y-2 || sum > high.X+high.Y+2 {
			continue
		}
		going := false
		for x := low.X - 1; x <= high.X+1; x++ {
			for _, c := range cells(x, sum-x+1, x, sum-x) {
				if !region.Contains(r, c) {
					going = false
					continue
				}
				if !going {
					l = append(l, api.Track{Role: api.RoInfill})
				}
				going = true
				l[len(l)-1].Cells = append(l[len(l)-1].Cells, c)
			}
		}
	}
	return l
}

// P29.1, P29.2, P29.3, P29.5, P29.6.
func TestPatternsOfAnyRegion(t *testing.T) {
	random := rand.New(rand.NewSource(29))
	extra := [4]int{}
	for i := range 800 {
		r := randomRegion(random)
		picture := region.Picture(r)
		kind, spacing, layer := i%4, 1+random.Intn(5), random.Intn(5)-2
		want := lines(r, kind, spacing, layer)
		covered := region.Cells(track.Cover(want))
		var far []api.Cell
		for _, c := range region.Cells(r) {
			if distance(c, covered) > spacing {
				far = append(far, c)
			}
		}
		rest, _ := region.Of(far)
		for _, z := range Zigzag(rest) {
			want = append(want, api.Track{Role: api.RoInfill, Cells: z.Cells})
			extra[kind]++
		}
		got := Pattern(r, kind, spacing, layer)
		if !slices.EqualFunc(got, want, same) || region.Picture(r) != picture {
			t.Errorf("Pattern(\n%s, %d, %d, %d) = %v; want %v", picture, kind, spacing, layer, got, want)
		}
		cover := track.Cover(got)
		if Far(r, cover) > spacing || !region.Within(cover, r) || count(got) != region.Count(cover) {
			t.Errorf("Pattern(\n%s, %d, %d, %d) covers\n%s", picture, kind, spacing, layer, region.Picture(cover))
		}
		for _, l := range [][]api.Track{Zigzag(r), Rows(r, 1, layer), Columns(r, 1, layer), Pattern(r, api.PaStairs, 1, layer)} {
			if !region.Same(track.Cover(l), r) || count(l) != region.Count(r) || slices.ContainsFunc(l, func(o api.Track) bool { return !track.Valid(o) || o.Closed }) {
				t.Errorf("%v does not cover each cell once of\n%s", l, picture)
			}
		}
		z := Zigzag(r)
		for k := 1; k < len(z); k++ {
			if neighbors(z[k-1].Cells[len(z[k-1].Cells)-1], z[k].Cells[0]) {
				t.Errorf("Zigzag of\n%scould go on behind track %d", picture, k-1)
			}
		}
	}
	if extra[api.PaLines] < 30 || extra[api.PaGrid] < 5 || extra[api.PaStairs] < 20 {
		t.Errorf("so many tracks are added to the lines: %v", extra)
	}
}

// count returns the number of cells of tracks.
func count(l []api.Track) int {
	n := 0
	for _, t := range l {
		n += len(t.Cells)
	}
	return n
}

// P29.3.
func TestPattern(t *testing.T) {
	square := rectangle(0, 0, 4, 4)
	for _, q := range []struct {
		r                    api.Region
		kind, spacing, layer int
		want                 []api.Track
	}{
		{rectangle(0, 0, 1, 1), api.PaStairs, 1, 0, tracks(api.RoInfill, cells(0, 1, 0, 0, 1, 0), cells(1, 1))},
		{square, api.PaLines, 3, 2, tracks(api.RoInfill, cells(0, 0, 1, 0, 2, 0, 3, 0, 4, 0), cells(0, 3, 1, 3, 2, 3, 3, 3, 4, 3))},
		{square, api.PaLines, 4, -1, tracks(api.RoInfill, cells(0, 0, 0, 1, 0, 2, 0, 3, 0, 4), cells(4, 0, 4, 1, 4, 2, 4, 3, 4, 4))},
		// No line meets the region, and its far cells are filled.
		{rectangle(1, 1, 2, 2), api.PaLines, 3, 0, tracks(api.RoInfill, cells(2, 1, 1, 1, 1, 2, 2, 2))},
		// The cells of the upper row are too far from the line.
		{rectangle(0, 0, 1, 3), api.PaLines, 2, 0, Rows(rectangle(0, 0, 1, 3), 2, 0)},
		{region.Union(rectangle(0, 0, 1, 0), rectangle(0, 1, 0, 3)), api.PaLines, 5, 0, tracks(api.RoInfill, cells(0, 0, 1, 0))},
		{region.Union(rectangle(0, 0, 1, 0), rectangle(0, 1, 0, 8)), api.PaLines, 9, 0, tracks(api.RoInfill, cells(0, 0, 1, 0))},
		{region.Union(rectangle(0, 0, 0, 0), rectangle(4, 1, 4, 2)), api.PaLines, 3, 0, tracks(api.RoInfill, cells(0, 0), cells(4, 1, 4, 2))},
		{square, api.PaLines, 0, 0, nil}, {square, api.PaLines, 65, 0, nil}, {square, -1, 2, 0, nil}, {square, 4, 2, 0, nil}, {invalid(), 0, 2, 0, nil},
		{square, math.MinInt, 2, 0, nil}, {square, 0, math.MaxInt, 0, nil}, {api.Region{}, 2, 2, 0, nil},
	} {
		compare(t, "Pattern", q.r, Pattern(q.r, q.kind, q.spacing, q.layer), q.want)
	}
	rings := Pattern(rectangle(0, 0, 6, 6), api.PaRings, 2, 0)
	if len(rings) != 2 || len(rings[0].Cells) != 24 || len(rings[1].Cells) != 8 || !rings[1].Closed || rings[1].Role != api.RoInfill {
		t.Errorf("the rings of a square are %v", rings)
	}
	grid := Pattern(rectangle(0, 0, 2, 2), api.PaGrid, 2, 0)
	compare(t, "Pattern", square, grid, tracks(api.RoInfill, cells(0, 0, 1, 0, 2, 0), cells(0, 2, 1, 2, 2, 2), cells(0, 1), cells(2, 1)))
}

// P29.4.
func TestFar(t *testing.T) {
	for _, q := range []struct {
		r, cover api.Region
		want     int
	}{
		{read(0, 0, "#....#"), read(1, 3, "#"), 4},
		{read(0, 0, "#"), read(0, 0, "#"), 0},
		{api.Region{}, api.Region{}, 0}, {api.Region{}, read(0, 0, "#"), 0}, {read(0, 0, "#"), api.Region{}, -1},
		{invalid(), api.Region{}, -1}, {api.Region{}, invalid(), -1}, {invalid(), read(0, 0, "#"), -1}, {read(0, 0, "#"), invalid(), -1},
		{read(-edge, -edge, "#"), read(edge-1, edge-1, "#"), 2*edge - 1}, {read(edge-1, 0, "#"), read(-edge, 0, "#"), 2*edge - 1}, {read(0, edge-1, "#"), read(0, -edge, "#"), 2*edge - 1},
		{rectangle(-edge, -edge, edge-1, edge-1), read(0, 0, "#"), edge},
	} {
		if got := Far(q.r, q.cover); got != q.want {
			t.Errorf("Far(%v, %v) = %d; want %d", q.r, q.cover, got, q.want)
		}
	}
	random := rand.New(rand.NewSource(30))
	for range 300 {
		r, cover := randomRegion(random), randomRegion(random)
		if random.Intn(2) == 0 {
			cover = track.Cover(Rows(r, 1+random.Intn(6), random.Intn(6)))
		}
		want := -1
		for _, c := range region.Cells(r) {
			want = max(want, distance(c, region.Cells(cover)))
		}
		if want == math.MaxInt {
			want = -1
		}
		if len(r.Rows) == 0 {
			want = 0
		}
		if got := Far(r, cover); got != want {
			t.Errorf("Far(%v, %v) = %d; want %d", r, cover, got, want)
		}
	}
}
