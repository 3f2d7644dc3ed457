package thin

import (
	"math/rand"
	"slices"
	"testing"

	"additive/api"
	"additive/region"
	"additive/track"
)

const edge = api.MaxCell

// read returns the region of a picture whose last line begins at (x, y).
func read(x, y int, lines ...string) api.Region {
	text := ""
	for _, line := range lines {
		text += line + "\n"
	}
	r, e := region.Read(text, api.Cell{X: x, Y: y})
	if e != api.OK {
		panic("wrong picture")
	}
	return r
}

// cells returns cells whose coordinates are given in pairs.
func cells(coordinates ...int) []api.Cell {
	l := []api.Cell{}
	for i := 0; i < len(coordinates); i += 2 {
		l = append(l, api.Cell{X: coordinates[i], Y: coordinates[i+1]})
	}
	return l
}

func invalid() api.Region {
	return api.Region{Rows: []api.Row{{Y: 0, Runs: []api.Run{{From: 0, To: 9}, {From: 4, To: 12}}}}}
}

// P25.1.
func TestSplit(t *testing.T) {
	for _, q := range []struct{ r, wide, thin api.Region }{
		{api.Region{}, api.Region{}, api.Region{}},
		{invalid(), api.Region{}, api.Region{}},
		{read(0, 0, "#"), api.Region{}, read(0, 0, "#")},
		{read(0, 0, "###", "###", "###"), read(0, 0, "###", "###", "###"), api.Region{}},
		{read(0, 0, "##", "##", "##", "##", "##"), api.Region{}, read(0, 0, "##", "##", "##", "##", "##")},
		{read(-2, 3, "###...", "######", "###..#"), read(-2, 3, "###", "###", "###"), read(1, 3, "###", "..#")},
		{read(edge-4, edge-3, "####", "####", ".###"), read(edge-3, edge-3, "###", "###", "###"), read(edge-4, edge-2, "#", "#")},
	} {
		wide, thin := Split(q.r)
		if !region.Same(wide, q.wide) || !region.Same(thin, q.thin) {
			t.Errorf("Split of\n%sis %v and %v; want %v and %v", region.Picture(q.r), wide, thin, q.wide, q.thin)
		}
	}
}

// P25.2.
func TestLines(t *testing.T) {
	for _, q := range []struct {
		r    api.Region
		want [][]api.Cell
	}{
		{api.Region{}, nil},
		{invalid(), nil},
		{read(0, 0, ".....#", "###..#"), [][]api.Cell{cells(0, 0, 1, 0, 2, 0), cells(5, 0, 5, 1)}},
		{read(7, -7, "#"), [][]api.Cell{cells(7, -7)}},
		{read(0, 0, ".#", "#."), [][]api.Cell{cells(0, 0), cells(1, 1)}},
		{read(0, 0, "##", "##"), [][]api.Cell{cells(0, 0, 1, 0), cells(0, 1, 1, 1)}},
		// Columns are cut by horizontal runs, and ordered by their first cells.
		{
			read(0, 0, "#.#.#", "#...#", "###.#", "#.#..", "#.#.#"),
			[][]api.Cell{cells(0, 2, 1, 2, 2, 2), cells(0, 0, 0, 1), cells(2, 0, 2, 1), cells(4, 0), cells(4, 2, 4, 3, 4, 4), cells(0, 3, 0, 4), cells(2, 4)},
		},
		{read(-edge, -edge, "##.", "..#"), [][]api.Cell{cells(-edge, -edge+1, -edge+1, -edge+1), cells(-edge+2, -edge)}},
		{read(edge-1, edge-2, "#", "#"), [][]api.Cell{cells(edge-1, edge-2, edge-1, edge-1)}},
	} {
		picture := region.Picture(q.r)
		got := Lines(q.r)
		if len(got) != len(q.want) {
			t.Errorf("Lines of\n%sare %v; want %v", picture, got, q.want)
			continue
		}
		for i, line := range got {
			if !slices.Equal(line.Cells, q.want[i]) || line.Role != api.RoThin || line.Closed {
				t.Errorf("Lines of\n%s: %v; want %v", picture, line, q.want[i])
			}
		}
	}
}

// runs returns the maximal sequences of cells of a map along a step, ordered by their first cells.
func runs(inside map[api.Cell]bool, dx, dy int) [][]api.Cell {
	var l [][]api.Cell
	for y := -12; y < 12; y++ {
		for x := -12; x < 12; x++ {
			if !inside[api.Cell{X: x, Y: y}] || inside[api.Cell{X: x - dx, Y: y - dy}] {
				continue
			}
			var run []api.Cell
			for c := (api.Cell{X: x, Y: y}); inside[c]; c = (api.Cell{X: c.X + dx, Y: c.Y + dy}) {
				run = append(run, c)
			}
			l = append(l, run)
		}
	}
	return l
}

// coveredBySquares returns the cells that squares of 3 times 3 cells cover.
func coveredBySquares(inside map[api.Cell]bool) map[api.Cell]bool {
	covered := map[api.Cell]bool{}
	for c := range inside {
		whole := true
		for i := range 9 {
			whole = whole && inside[api.Cell{X: c.X + i%3, Y: c.Y + i/3}]
		}
		for i := range 9 {
			if whole {
				covered[api.Cell{X: c.X + i%3, Y: c.Y + i/3}] = true
			}
		}
	}
	return covered
}

// P25.1 to P25.5.
func TestAnyRegion(t *testing.T) {
	random := rand.New(rand.NewSource(25))
	wideOnes, columns := 0, 0
	for range 600 {
		inside := map[api.Cell]bool{}
		l := []api.Cell{}
		density := 1 + random.Intn(20)
		for range random.Intn(100) {
			c := api.Cell{X: random.Intn(20) - 10, Y: random.Intn(20) - 10}
			if random.Intn(density) == 0 {
				for x := range 3 {
					for y := range 3 {
						l = append(l, api.Cell{X: min(c.X+x, 10), Y: min(c.Y+y, 10)})
					}
				}
			}
			l = append(l, c)
		}
		for _, c := range l {
			inside[c] = true
		}
		r, _ := region.Of(l)
		picture := region.Picture(r)
		wide, thin := Split(r)
		again, none := Split(wide)
		if !region.Same(region.Union(wide, thin), r) || len(region.Intersect(wide, thin).Rows) != 0 || !region.Same(again, wide) || len(none.Rows) != 0 {
			t.Errorf("Split of\n%sis %v and %v, and then %v and %v", picture, wide, thin, again, none)
		}
		covered := coveredBySquares(inside)
		if region.Count(wide) != len(covered) {
			t.Errorf("Split of\n%shas %d wide cells; want %d", picture, region.Count(wide), len(covered))
		}
		wideOnes += len(covered)
		var want [][]api.Cell
		single := map[api.Cell]bool{}
		for _, run := range runs(inside, 1, 0) {
			if len(run) > 1 {
				want = append(want, run)
			} else {
				single[run[0]] = true
			}
		}
		want = append(want, runs(single, 0, 1)...)
		got := Lines(r)
		count := 0
		for i, line := range got {
			if i >= len(want) || !slices.Equal(line.Cells, want[i]) || !track.Valid(line) || line.Role != api.RoThin || line.Closed {
				t.Errorf("Lines of\n%s: %v", picture, line)
			}
			count += len(line.Cells)
			if len(line.Cells) > 1 && line.Cells[0].X == line.Cells[1].X {
				columns++
			}
		}
		if len(got) != len(want) || count != len(inside) || !region.Same(track.Cover(got), r) || region.Picture(r) != picture {
			t.Errorf("Lines of\n%shave %d cells", picture, count)
		}
	}
	if wideOnes < 1000 || columns < 300 {
		t.Errorf("only %d wide cells and %d columns", wideOnes, columns)
	}
}
