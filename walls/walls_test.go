package walls

import (
	"math"
	"math/rand"
	"slices"
	"testing"

	"additive/api"
	"additive/morph"
	"additive/region"
	"additive/ringwalk"
	"additive/track"
)

const edge = api.MaxCell

// rectangle returns the cells from (x, y) to (u, v).
func rectangle(x, y, u, v int) api.Region {
	var r api.Region
	for ; y <= v; y++ {
		r.Rows = append(r.Rows, api.Row{Y: y, Runs: []api.Run{{From: x, To: u + 1}}})
	}
	return r
}

func same(a, b api.Track) bool {
	return a.Role == b.Role && a.Closed == b.Closed && slices.Equal(a.Cells, b.Cells)
}

// lengths returns the numbers of cells of tracks.
func lengths(l []api.Track) []int {
	var n []int
	for _, t := range l {
		n = append(n, len(t.Cells))
	}
	return n
}

// P27.1.
func TestWalls(t *testing.T) {
	square := rectangle(0, 0, 3, 3)
	large := rectangle(0, 0, 199, 149)
	for _, q := range []struct {
		r       api.Region
		n       int
		lengths []int
		rest    api.Region
	}{
		{square, 1, []int{12}, rectangle(1, 1, 2, 2)},
		{square, 2, []int{12, 4}, api.Region{}},
		{square, 3, []int{12, 4}, api.Region{}},
		{square, 0, nil, square},
		{square, -1, nil, square},
		{square, math.MinInt, nil, square},
		{square, math.MaxInt, []int{12, 4}, api.Region{}},
		{api.Region{}, 5, nil, api.Region{}},
		{api.Region{Rows: []api.Row{{Y: 0}}}, 0, nil, api.Region{}},
		{api.Region{Rows: []api.Row{{Y: 0}}}, 2, nil, api.Region{}},
		// A row of cells is walked to and fro, but covered once.
		{rectangle(0, 0, 4, 0), 1, []int{5}, api.Region{}},
		{rectangle(-edge, -edge, -edge+4, -edge+4), 1, []int{16}, rectangle(-edge+1, -edge+1, -edge+3, -edge+3)},
		{large, 64, nil, rectangle(64, 64, 135, 85)},
		{large, 65, nil, rectangle(64, 64, 135, 85)},
		{large, math.MaxInt, nil, rectangle(64, 64, 135, 85)},
		{large, 63, nil, rectangle(63, 63, 136, 86)},
	} {
		got, rest := Walls(q.r, q.n)
		if !region.Same(rest, q.rest) {
			t.Errorf("Walls(%v, %d) leaves %v; want %v", q.r, q.n, rest, q.rest)
		}
		if q.lengths != nil && !slices.Equal(lengths(got), q.lengths) {
			t.Errorf("Walls(%v, %d) = %v", q.r, q.n, got)
		}
		if cover := track.Cover(got); !region.Same(cover, region.Subtract(q.r, q.rest)) && region.Valid(q.r) || !region.Valid(q.r) && len(got) > 0 {
			t.Errorf("Walls(%v, %d) covers %v", q.r, q.n, cover)
		}
	}
	got, _ := Walls(square, 1)
	want := api.Track{Role: api.RoWall, Closed: true, Cells: []api.Cell{{}, {X: 1}, {X: 2}, {X: 3}, {X: 3, Y: 1}, {X: 3, Y: 2}, {X: 3, Y: 3}, {X: 2, Y: 3}, {X: 1, Y: 3}, {Y: 3}, {Y: 2}, {Y: 1}}}
	if !same(got[0], want) {
		t.Errorf("the wall of a square is %v", got[0])
	}
	_, rest := Walls(square, 0)
	rest.Rows[0].Runs[0].To = 99
	if !region.Same(square, rectangle(0, 0, 3, 3)) {
		t.Error("the rest shares memory with the region")
	}
}

// P27.1: all rounds, for regions that are narrow in places.
func TestAnyRegion(t *testing.T) {
	random := rand.New(rand.NewSource(27))
	cut := 0
	for range 300 {
		var r api.Region
		for range 1 + random.Intn(6) {
			x, y := random.Intn(20)-10, random.Intn(20)-10
			r = region.Union(r, rectangle(x, y, x+random.Intn(12), y+random.Intn(12)))
		}
		r = region.Subtract(r, rectangle(0, 0, random.Intn(4), random.Intn(4)))
		n := random.Intn(6)
		picture := region.Picture(r)
		var tracks []api.Track
		for k := range n {
			tracks = append(tracks, ringwalk.Walk(morph.Erode(r, k))...)
		}
		got, rest := Walls(r, n)
		if want := track.Once(tracks); !slices.EqualFunc(got, want, same) || !region.Same(rest, morph.Erode(r, n)) {
			t.Errorf("Walls(\n%s, %d) = %v, %v; want %v", picture, n, got, rest, want)
		}
		covered := 0
		for _, w := range got {
			covered += len(w.Cells)
			if w.Role != api.RoWall || !track.Valid(w) {
				t.Errorf("Walls(\n%s, %d) has the track %v", picture, n, w)
			}
		}
		if !region.Same(track.Cover(got), region.Subtract(r, rest)) || covered != region.Count(r)-region.Count(rest) || region.Picture(r) != picture {
			t.Errorf("Walls(\n%s, %d) covers %d cells", picture, n, covered)
		}
		if len(got) != len(tracks) || slices.ContainsFunc(got, func(w api.Track) bool { return !w.Closed }) {
			cut++
		}
	}
	if cut < 50 {
		t.Errorf("only %d regions have tracks that are cut", cut)
	}
}
