package ringwalk

import (
	"math/rand"
	"slices"
	"testing"

	"additive/api"
	"additive/boundary"
	"additive/morph"
	"additive/region"
	"additive/track"
)

const edge = api.MaxCell

// read returns the region of a picture whose last line begins at (x, y).
func read(x, y int, lines ...string) api.Region {
	text := ""
	for _, line := range lines {
		text += line + "\n"
	}
	r, e := region.Read(text, api.Cell{X: x, Y: y})
	if e != api.OK {
		panic("wrong picture")
	}
	return r
}

// cells returns cells whose coordinates are given in pairs.
func cells(coordinates ...int) []api.Cell {
	l := []api.Cell{}
	for i := 0; i < len(coordinates); i += 2 {
		l = append(l, api.Cell{X: coordinates[i], Y: coordinates[i+1]})
	}
	return l
}

// P24.1.
func TestWalk(t *testing.T) {
	for _, q := range []struct {
		r    api.Region
		want [][]api.Cell
	}{
		{r: api.Region{}},
		{r: api.Region{Rows: []api.Row{{Y: 0}}}},
		{read(0, 0, "#"), [][]api.Cell{cells(0, 0)}},
		{read(0, 0, "##", "##"), [][]api.Cell{cells(0, 0, 1, 0, 1, 1, 0, 1)}},
		{read(0, 0, "###"), [][]api.Cell{cells(0, 0, 1, 0, 2, 0, 1, 0)}},
		{read(0, 0, "#.", "##"), [][]api.Cell{cells(0, 0, 1, 0, 0, 0, 0, 1)}},
		{read(-edge, edge-2, "#", "#"), [][]api.Cell{cells(-edge, edge-2, -edge, edge-1)}},
		{read(0, 0, ".#", "#."), [][]api.Cell{cells(0, 0), cells(1, 1)}},
		// The loop of a hole turns right at all of its corners, also at the first one.
		{read(0, 0, "###", "#.#", "###"), [][]api.Cell{cells(0, 0, 1, 0, 2, 0, 2, 1, 2, 2, 1, 2, 0, 2, 0, 1), cells(0, 1, 0, 2, 1, 2, 2, 2, 2, 1, 2, 0, 1, 0, 0, 0)}},
		// A notch of the width of a cell.
		{read(0, 0, "#.#", "###"), [][]api.Cell{cells(0, 0, 1, 0, 2, 0, 2, 1, 2, 0, 1, 0, 0, 0, 0, 1)}},
		// The corner in the middle of a cross is passed four times.
		{read(-1, -1, ".#.", "###", ".#."), [][]api.Cell{cells(0, -1, 0, 0, 1, 0, 0, 0, 0, 1, 0, 0, -1, 0, 0, 0)}},
		{read(0, 0, "###", "###", "###"), [][]api.Cell{cells(0, 0, 1, 0, 2, 0, 2, 1, 2, 2, 1, 2, 0, 2, 0, 1)}},
	} {
		got := Walk(q.r)
		if len(got) != len(q.want) {
			t.Errorf("Walk of\n%shas %d tracks", region.Picture(q.r), len(got))
			continue
		}
		for i, walk := range got {
			if !slices.Equal(walk.Cells, q.want[i]) || walk.Role != api.RoWall || !walk.Closed {
				t.Errorf("Walk of\n%sis %v; want %v", region.Picture(q.r), walk, q.want[i])
			}
		}
	}
}

// follow walks along a loop crack by crack, by the definition.
func follow(loop api.Poly) []api.Cell {
	var at []api.Pt // all corners of cells that the loop passes
	for i, a := range loop.Pts {
		b := loop.Pts[(i+1)%len(loop.Pts)]
		for a != b {
			at = append(at, a)
			a = api.Pt{X: a.X + min(1, max(-1, b.X-a.X)), Y: a.Y + min(1, max(-1, b.Y-a.Y))}
		}
	}
	var l []api.Cell
	for i, p := range at {
		q, after := at[(i+1)%len(at)], at[(i+2)%len(at)]
		d, e := api.Pt{X: q.X - p.X, Y: q.Y - p.Y}, api.Pt{X: after.X - q.X, Y: after.Y - q.Y}
		c := map[api.Pt]api.Cell{{X: 1}: {X: p.X, Y: p.Y}, {Y: 1}: {X: p.X - 1, Y: p.Y}, {X: -1}: {X: p.X - 1, Y: p.Y - 1}, {Y: -1}: {X: p.X, Y: p.Y - 1}}[d]
		l = append(l, c)
		if d.X*e.Y-d.Y*e.X < 0 {
			l = append(l, api.Cell{X: c.X + d.X, Y: c.Y + d.Y})
		}
	}
	l = slices.Compact(l)
	if len(l) > 1 && l[len(l)-1] == l[0] {
		l = l[:len(l)-1]
	}
	return l
}

// P24.1, P24.2, P24.3, P24.4.
func TestAnyRegion(t *testing.T) {
	random := rand.New(rand.NewSource(24))
	several := 0
	for range 600 {
		width, height := 1+random.Intn(10), 1+random.Intn(10)
		at := api.Cell{X: []int{-5, -edge, edge - width}[random.Intn(3)], Y: []int{-5, -edge, edge - height}[random.Intn(3)]}
		density := 2 + random.Intn(12)
		l := []api.Cell{}
		for x := range width {
			for y := range height {
				if random.Intn(density) > 0 {
					l = append(l, api.Cell{X: at.X + x, Y: at.Y + y})
				}
			}
		}
		r, _ := region.Of(l)
		picture := region.Picture(r)
		got, loops := Walk(r), boundary.Trace(r)
		if len(got) != len(loops) || region.Picture(r) != picture {
			t.Fatalf("Walk of\n%shas %d tracks for %d loops", picture, len(got), len(loops))
		}
		for i, walk := range got {
			if want := follow(loops[i]); !slices.Equal(walk.Cells, want) || !walk.Closed || walk.Role != api.RoWall || !track.Valid(walk) {
				t.Errorf("Walk of\n%sis %v; want %v", picture, walk, want)
			}
		}
		if cover := track.Cover(got); !region.Same(cover, morph.Ring(r)) {
			t.Errorf("Walk of\n%scovers\n%s", picture, region.Picture(cover))
		}
		if len(got) > 2 {
			several++
		}
	}
	if several < 100 {
		t.Errorf("only %d regions have several loops", several)
	}
}

// comb returns a region with teeth of the width of a cell, whose outer walk has exactly so many cells; and a single cell above it.
func comb(walk int) api.Region {
	var r api.Region
	const teeth = 1000
	length := (walk/2 - 2*teeth) / teeth // of each tooth but the first one, which takes the rest
	rest := walk/2 - 2*teeth - length*teeth
	r.Rows = append(r.Rows, api.Row{Y: 0, Runs: []api.Run{{From: 0, To: 2*teeth + 1}}})
	for y := 1; y <= length+rest; y++ {
		row := api.Row{Y: y}
		for i := range teeth {
			if y <= length || i == 0 {
				row.Runs = append(row.Runs, api.Run{From: 2 * i, To: 2*i + 1})
			}
		}
		r.Rows = append(r.Rows, row)
	}
	r.Rows = append(r.Rows, api.Row{Y: length + rest + 5, Runs: []api.Run{{From: 3, To: 4}}})
	return r
}

// P24.1: the longest walk, and one that is too long, which alone is left out.
func TestLongWalks(t *testing.T) {
	if got := Walk(comb(api.MaxPath)); len(got) != 2 || len(got[0].Cells) != api.MaxPath || !track.Valid(got[0]) {
		t.Errorf("%d tracks, the first one with %d cells", len(got), len(got[0].Cells))
	}
	if got := Walk(comb(api.MaxPath + 2)); len(got) != 1 || !slices.Equal(got[0].Cells, cells(3, comb(api.MaxPath + 2).Rows[len(comb(api.MaxPath+2).Rows)-1].Y)) {
		t.Errorf("%d tracks, the first one with %d cells", len(got), len(got[0].Cells))
	}
}
