package parts

import (
	"cmp"
	"math"
	"math/rand"
	"slices"
	"testing"

	"additive/api"
	"additive/morph"
	"additive/region"
)

const edge = api.MaxCell

// read returns the region of a picture whose last line begins at (x, y).
func read(x, y int, lines ...string) api.Region {
	text := ""
	for _, line := range lines {
		text += line + "\n"
	}
	r, e := region.Read(text, api.Cell{X: x, Y: y})
	if e != api.OK {
		panic("wrong picture")
	}
	return r
}

func invalid() api.Region {
	return api.Region{Rows: []api.Row{{Y: 0, Runs: []api.Run{{From: 0, To: 2}, {From: 2, To: 3}}}}}
}

func equal(a, b []api.Region) bool {
	return slices.EqualFunc(a, b, region.Same)
}

// P21.1, P21.2.
func TestPartsOfPictures(t *testing.T) {
	for _, q := range []struct {
		r                 api.Region
		components, holes []api.Region
	}{
		{r: api.Region{}},
		{r: invalid()},
		{r: read(0, 0, "#"), components: []api.Region{read(0, 0, "#")}},
		{r: read(0, 0, ".#", "#."), components: []api.Region{read(0, 0, "#"), read(1, 1, "#")}},
		{r: read(0, 0, "#.", ".#"), components: []api.Region{read(1, 0, "#"), read(0, 1, "#")}},
		{r: read(0, 0, "###", "#.#", "###"), components: []api.Region{read(0, 0, "###", "#.#", "###")}, holes: []api.Region{read(1, 1, "#")}},
		{r: read(0, 0, "##.", "#.#", "###"), components: []api.Region{read(0, 0, "##.", "#.#", "###")}},
		{r: read(0, 0, "###", "#.#", "#.#"), components: []api.Region{read(0, 0, "###", "#.#", "#.#")}},
		// A hole that is connected through a corner only, and one around a component.
		{
			r: read(-3, 5, "######", "#..###", "##...#", "######"), components: []api.Region{read(-3, 5, "######", "#..###", "##...#", "######")},
			holes: []api.Region{read(-2, 6, "##..", ".###")},
		},
		{
			r: read(0, 0, "#####", "#...#", "#.#.#", "#...#", "#####"), components: []api.Region{read(0, 0, "#####", "#...#", "#...#", "#...#", "#####"), read(2, 2, "#")},
			holes: []api.Region{read(1, 1, "###", "#.#", "###")},
		},
		// A component whose two ends meet above, and holes that are ordered by their first cells.
		{
			r: read(0, 0, "#######", "#.#...#", "#.#.###", "#####.#", "#...#.#", "#######"), components: []api.Region{read(0, 0, "#######", "#.#...#", "#.#.###", "#####.#", "#...#.#", "#######")},
			holes: []api.Region{read(1, 1, "###"), read(5, 1, "#", "#"), read(1, 3, "#", "#"), read(3, 3, "###", "#..")},
		},
		{r: read(0, 0, "#.#", "#.#", "###"), components: []api.Region{read(0, 0, "#.#", "#.#", "###")}},
		{r: read(0, 0, "###", "#.#", "#.#"), components: []api.Region{read(0, 0, "###", "#.#", "#.#")}},
		{
			r: read(-edge, -edge, "###", "#.#", "###"), components: []api.Region{read(-edge, -edge, "###", "#.#", "###")},
			holes: []api.Region{read(-edge+1, -edge+1, "#")},
		},
		{
			r: read(edge-3, edge-3, "###", "#.#", "###"), components: []api.Region{read(edge-3, edge-3, "###", "#.#", "###")},
			holes: []api.Region{read(edge-2, edge-2, "#")},
		},
		{r: read(edge-2, -edge, "#.", ".#"), components: []api.Region{read(edge-1, -edge, "#"), read(edge-2, -edge+1, "#")}},
	} {
		if got := Components(q.r); !equal(got, q.components) {
			t.Errorf("Components of\n%sare %v; want %v", region.Picture(q.r), got, q.components)
		}
		if got := Holes(q.r); !equal(got, q.holes) {
			t.Errorf("Holes of\n%sare %v; want %v", region.Picture(q.r), got, q.holes)
		}
		var want api.Region
		for _, part := range slices.Concat(q.components, q.holes) {
			want = region.Union(want, part)
		}
		if got := Fill(q.r); !region.Same(got, want) {
			t.Errorf("Fill of\n%sis %v", region.Picture(q.r), got)
		}
	}
}

// compare orders cells by Y, then X.
func compare(a, b api.Cell) int {
	return cmp.Or(cmp.Compare(a.Y, b.Y), cmp.Compare(a.X, b.X))
}

// flood returns the sets of the cells of a map that are connected by steps, ordered by their first cells.
func flood(inside map[api.Cell]bool, steps []api.Cell) [][]api.Cell {
	var sets [][]api.Cell
	done := map[api.Cell]bool{}
	for c := range inside {
		if done[c] {
			continue
		}
		done[c] = true
		set := []api.Cell{c}
		for i := 0; i < len(set); i++ {
			for _, s := range steps {
				n := api.Cell{X: set[i].X + s.X, Y: set[i].Y + s.Y}
				if inside[n] && !done[n] {
					done[n] = true
					set = append(set, n)
				}
			}
		}
		slices.SortFunc(set, compare)
		sets = append(sets, set)
	}
	slices.SortFunc(sets, func(a, b []api.Cell) int { return compare(a[0], b[0]) })
	return sets
}

func sides() []api.Cell {
	return []api.Cell{{X: 1}, {X: -1}, {Y: 1}, {Y: -1}}
}

func corners() []api.Cell {
	return append(sides(), []api.Cell{{X: 1, Y: 1}, {X: 1, Y: -1}, {X: -1, Y: 1}, {X: -1, Y: -1}}...)
}

// randomRegion returns cells of a rectangle, sometimes at a border of the grid.
func randomRegion(random *rand.Rand, size int) (api.Region, map[api.Cell]bool) {
	at := api.Cell{X: []int{-5, -edge, edge - size}[random.Intn(3)], Y: []int{-5, -edge, edge - size}[random.Intn(3)]}
	inside := map[api.Cell]bool{}
	l := []api.Cell{}
	density := 1 + random.Intn(9)
	for x := range size {
		for y := range size {
			if random.Intn(10) < density {
				c := api.Cell{X: at.X + x, Y: at.Y + y}
				inside[c] = true
				l = append(l, c)
			}
		}
	}
	r, _ := region.Of(l)
	return r, inside
}

func regions(sets [][]api.Cell) []api.Region {
	var l []api.Region
	for _, set := range sets {
		r, _ := region.Of(set)
		l = append(l, r)
	}
	return l
}

// P21.1, P21.2, P21.4, P21.5.
func TestAnyRegion(t *testing.T) {
	random := rand.New(rand.NewSource(21))
	found := 0
	for range 600 {
		r, inside := randomRegion(random, 1+random.Intn(11))
		picture := region.Picture(r)
		components := Components(r)
		if want := regions(flood(inside, sides())); !equal(components, want) {
			t.Errorf("Components of\n%sare %v", picture, components)
		}
		// The complement within a frame; what is connected with the frame is not a hole.
		outside := map[api.Cell]bool{}
		low, high, some := region.Box(r)
		for x := low.X - 1; x <= high.X+1; x++ {
			for y := low.Y - 1; y <= high.Y+1; y++ {
				c := api.Cell{X: x, Y: y}
				outside[c] = !inside[c]
				if inside[c] {
					delete(outside, c)
				}
			}
		}
		var want []api.Region
		if some {
			want = regions(flood(outside, corners())[1:])
		}
		holes := Holes(r)
		if !equal(holes, want) {
			t.Errorf("Holes of\n%sare %v; want %v", picture, holes, want)
		}
		found += len(holes)
		filled := r
		for _, hole := range holes {
			filled = region.Union(filled, hole)
		}
		if got := Fill(r); !region.Same(got, filled) || len(Holes(got)) != 0 || !region.Same(Fill(got), got) {
			t.Errorf("Fill of\n%sis %v", picture, got)
		}
		for _, c := range components {
			if l := Components(c); len(l) != 1 || !region.Same(l[0], c) {
				t.Errorf("Components of\n%sare %v", region.Picture(c), l)
			}
		}
		if region.Picture(r) != picture {
			t.Fatalf("the region\n%shas been changed", picture)
		}
	}
	if found < 200 {
		t.Errorf("only %d holes", found)
	}
}

// P21.3, P21.6.
func TestDepth(t *testing.T) {
	square := read(0, 0, "###", "###", "###")
	for _, q := range []struct {
		r    api.Region
		c    api.Cell
		want int
	}{
		{square, api.Cell{X: 1, Y: 1}, 2}, {square, api.Cell{}, 1}, {square, api.Cell{X: 2, Y: 1}, 1}, {square, api.Cell{X: 3, Y: 1}, 0}, {square, api.Cell{X: 1, Y: -1}, 0},
		{read(0, 0, "#####", "#####", "#####", "#####", "####."), api.Cell{X: 2, Y: 2}, 2},
		{api.Region{}, api.Cell{}, 0}, {invalid(), api.Cell{}, 0}, {square, api.Cell{X: math.MaxInt, Y: math.MinInt}, 0},
		{read(-edge, -edge, "##", "##"), api.Cell{X: -edge, Y: -edge}, 1},
	} {
		if got := Depth(q.r, q.c); got != q.want {
			t.Errorf("Depth(%v, %v) = %d; want %d", q.r, q.c, got, q.want)
		}
	}
	random := rand.New(rand.NewSource(22))
	deep := 0
	for range 60 {
		r, _ := randomRegion(random, 20)
		r, _ = morph.Close(r, 1)
		low, high, _ := region.Box(r)
		for x := low.X - 1; x <= high.X+1; x++ {
			for y := low.Y - 1; y <= high.Y+1; y++ {
				c := api.Cell{X: x, Y: y}
				depth := Depth(r, c)
				for k := range 12 {
					if in := region.Contains(morph.Erode(r, k), c); in != (depth > k) {
						t.Fatalf("Depth(\n%s, %v) = %d, but in the erosion by %d: %v", region.Picture(r), c, depth, k, in)
					}
				}
				if next := Depth(r, api.Cell{X: x + 1, Y: y - 1}); next > depth+1 || next < depth-1 {
					t.Errorf("the depth at %v is %d, and beside it %d", c, depth, next)
				}
				if depth > 2 {
					deep++
				}
			}
		}
	}
	if deep < 100 {
		t.Errorf("only %d cells are deep", deep)
	}
}

// P21.1, P21.2, P21.3: the whole grid, with a hole that reaches close to its border.
func TestLargeRegion(t *testing.T) {
	var r api.Region
	for y := -edge; y < edge; y++ {
		row := api.Row{Y: y, Runs: []api.Run{{From: -edge, To: edge}}}
		if y > -edge && y < edge-1 {
			row.Runs = []api.Run{{From: -edge, To: -edge + 1}, {From: 0, To: edge}}
		}
		r.Rows = append(r.Rows, row)
	}
	holes := Holes(r)
	if len(Components(r)) != 1 || len(holes) != 1 || region.Count(holes[0]) != (edge-1)*(2*edge-2) || region.Count(Fill(r)) != 4*edge*edge {
		t.Errorf("%d components and %d holes", len(Components(r)), len(holes))
	}
	if d := Depth(r, api.Cell{X: 2000, Y: 0}); d != 2001 {
		t.Errorf("the depth is %d", d)
	}
}
