package bridge

import (
	"math/rand"
	"slices"
	"testing"

	"additive/api"
	"additive/region"
	"additive/track"
)

const edge = api.MaxCell

// read returns the region of a picture whose last line begins at (x, y).
func read(x, y int, lines ...string) api.Region {
	text := ""
	for _, line := range lines {
		text += line + "\n"
	}
	r, e := region.Read(text, api.Cell{X: x, Y: y})
	if e != api.OK {
		panic("wrong picture")
	}
	return r
}

// cells returns cells whose coordinates are given in pairs.
func cells(coordinates ...int) []api.Cell {
	l := []api.Cell{}
	for i := 0; i < len(coordinates); i += 2 {
		l = append(l, api.Cell{X: coordinates[i], Y: coordinates[i+1]})
	}
	return l
}

func invalid() api.Region {
	return api.Region{Rows: []api.Row{{Y: 0, Runs: []api.Run{{From: 0, To: 5}}}, {Y: -1, Runs: []api.Run{{From: 0, To: 5}}}}}
}

// bridges are tracks of bridges with these cells.
func bridges(l ...[]api.Cell) []api.Track {
	var t []api.Track
	for _, cells := range l {
		t = append(t, api.Track{Role: api.RoBridge, Cells: cells})
	}
	return t
}

func same(a, b api.Track) bool {
	return a.Role == b.Role && a.Closed == b.Closed && slices.Equal(a.Cells, b.Cells)
}

// P30.1, P30.2, P30.3.
func TestBridges(t *testing.T) {
	for _, q := range []struct {
		r, below      api.Region
		loose         api.Region
		rows, columns api.Region
		tracks        []api.Track
		rest          api.Region
	}{
		{read(0, 0, "#####"), read(0, 0, "#...#"), read(1, 0, "###"), read(1, 0, "###"), api.Region{}, bridges(cells(1, 0, 2, 0, 3, 0)), api.Region{}},
		{read(0, 0, "#####"), read(0, 0, "#"), read(1, 0, "####"), api.Region{}, api.Region{}, nil, read(1, 0, "####")},
		// What holds a span must be in r, too.
		{read(1, 0, "####"), read(0, 0, "#...#"), read(1, 0, "###"), api.Region{}, api.Region{}, nil, read(1, 0, "###")},
		{read(0, 0, "####"), read(0, 0, "#...#"), read(1, 0, "###"), api.Region{}, api.Region{}, nil, read(1, 0, "###")},
		{read(0, 0, "#", "#", "#"), read(0, 0, "#", ".", "#"), read(0, 1, "#"), api.Region{}, read(0, 1, "#"), bridges(cells(0, 1)), api.Region{}},
		// As many cells in both directions: rows are taken.
		{read(0, 0, "###", "###", "###"), read(0, 0, "###", "#.#", "###"), read(1, 1, "#"), read(1, 1, "#"), read(1, 1, "#"), bridges(cells(1, 1)), api.Region{}},
		{
			read(-2, 5, "####", "####", "####", "####"), read(-2, 5, "####", "#..#", "#...", "####"), read(-1, 6, "##.", "###"), read(-1, 7, "##"), read(-1, 6, "##.", "###"),
			bridges(cells(-1, 6, -1, 7), cells(0, 6, 0, 7), cells(1, 6)), api.Region{},
		},
		// Several spans in a row, and their order.
		{
			read(0, 0, "#####", "#####"), read(0, 0, "#.#.#", "#...#"), read(0, 0, ".#.#.", ".###."), read(0, 0, ".#.#.", ".###."), api.Region{},
			bridges(cells(1, 0, 2, 0, 3, 0), cells(1, 1), cells(3, 1)), api.Region{},
		},
		{read(-edge, -edge, "##"), read(1-edge, -edge, "#"), read(-edge, -edge, "#"), api.Region{}, api.Region{}, nil, read(-edge, -edge, "#")},
		{read(edge-1, edge-2, "#", "#"), read(edge-1, edge-2, "#"), read(edge-1, edge-1, "#"), api.Region{}, api.Region{}, nil, read(edge-1, edge-1, "#")},
		{api.Region{}, read(0, 0, "#"), api.Region{}, api.Region{}, api.Region{}, nil, api.Region{}},
		{read(0, 0, "#"), api.Region{}, read(0, 0, "#"), api.Region{}, api.Region{}, nil, read(0, 0, "#")},
		{invalid(), read(0, 0, "#"), api.Region{}, api.Region{}, api.Region{}, nil, api.Region{}},
		{read(0, 0, "#####"), invalid(), api.Region{}, api.Region{}, api.Region{}, nil, api.Region{}},
	} {
		picture := region.Picture(q.r)
		if got := Loose(q.r, q.below); !region.Same(got, q.loose) {
			t.Errorf("Loose of\n%sis %v", picture, got)
		}
		if got := Anchored(q.r, q.below, false); !region.Same(got, q.rows) {
			t.Errorf("Anchored in rows of\n%sis %v", picture, got)
		}
		if got := Anchored(q.r, q.below, true); !region.Same(got, q.columns) {
			t.Errorf("Anchored in columns of\n%sis %v", picture, got)
		}
		tracks, rest := Bridges(q.r, q.below)
		if !slices.EqualFunc(tracks, q.tracks, same) || !region.Same(rest, q.rest) {
			t.Errorf("Bridges of\n%sare %v and %v", picture, tracks, rest)
		}
	}
}

// spans returns the anchored spans of a direction, cell by cell.
func spans(r, below map[api.Cell]bool, dx, dy int) [][]api.Cell {
	loose := func(c api.Cell) bool { return r[c] && !below[c] }
	var l [][]api.Cell
	for i := -10; i < 20; i++ {
		for k := -10; k < 20; k++ {
			c := api.Cell{X: k, Y: i} // row by row
			if dy == 1 {
				c = api.Cell{X: i, Y: k}
			}
			before := api.Cell{X: c.X - dx, Y: c.Y - dy}
			if !loose(c) || loose(before) {
				continue
			}
			var span []api.Cell
			for ; loose(c); c = (api.Cell{X: c.X + dx, Y: c.Y + dy}) {
				span = append(span, c)
			}
			if r[before] && below[before] && r[c] && below[c] {
				l = append(l, span)
			}
		}
	}
	return l
}

// P30.1, P30.2, P30.3, for any regions.
func TestAnyRegions(t *testing.T) {
	random := rand.New(rand.NewSource(30))
	upright, level := 0, 0
	for range 1000 {
		density, lower := 2+random.Intn(9), 1+random.Intn(4)
		inR, inBelow := map[api.Cell]bool{}, map[api.Cell]bool{}
		var a, b []api.Cell
		for x := range 1 + random.Intn(9) {
			for y := range 1 + random.Intn(9) {
				c := api.Cell{X: x - 3, Y: y - 3}
				if random.Intn(density) > 0 {
					inR[c], a = true, append(a, c)
				}
				if random.Intn(5) < lower {
					inBelow[c], b = true, append(b, c)
				}
			}
		}
		r, _ := region.Of(a)
		below, _ := region.Of(b)
		picture := region.Picture(r)
		rows, columns := spans(inR, inBelow, 1, 0), spans(inR, inBelow, 0, 1)
		inRows, _ := region.Of(slices.Concat(rows...))
		inColumns, _ := region.Of(slices.Concat(columns...))
		if got := Anchored(r, below, false); !region.Same(got, inRows) {
			t.Errorf("Anchored in rows of\n%sabove %v is %v", picture, below, got)
		}
		if got := Anchored(r, below, true); !region.Same(got, inColumns) {
			t.Errorf("Anchored in columns of\n%sabove %v is %v", picture, below, got)
		}
		want, covered := rows, inRows
		if region.Count(inColumns) > region.Count(inRows) {
			want, covered = columns, inColumns
			upright++
		} else if len(rows) > 0 {
			level++
		}
		loose := Loose(r, below)
		tracks, rest := Bridges(r, below)
		if !slices.EqualFunc(tracks, bridges(want...), same) || !region.Same(rest, region.Subtract(loose, covered)) || region.Picture(r) != picture {
			t.Errorf("Bridges of\n%sabove %v are %v, %v", picture, below, tracks, rest)
		}
		if !region.Same(loose, region.Subtract(r, below)) || !region.Same(region.Union(track.Cover(tracks), rest), loose) || len(region.Intersect(track.Cover(tracks), rest).Rows) > 0 {
			t.Errorf("Bridges of\n%sabove %v do not divide the loose cells", picture, below)
		}
	}
	if upright < 100 || level < 100 {
		t.Errorf("only %d bridges are in columns, %d in rows", upright, level)
	}
}
