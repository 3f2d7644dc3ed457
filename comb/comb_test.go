package comb

import (
	"math"
	"math/rand"
	"slices"
	"testing"

	"additive/api"
	"additive/region"
)

const edge = api.MaxCell

// read returns the region of a picture whose last line begins at (x, y).
func read(x, y int, lines ...string) api.Region {
	text := ""
	for _, line := range lines {
		text += line + "\n"
	}
	r, e := region.Read(text, api.Cell{X: x, Y: y})
	if e != api.OK {
		panic("wrong picture")
	}
	return r
}

func cell(x, y int) api.Cell { return api.Cell{X: x, Y: y} }

// cells returns cells whose coordinates are given in pairs.
func cells(coordinates ...int) []api.Cell {
	l := []api.Cell{}
	for i := 0; i < len(coordinates); i += 2 {
		l = append(l, cell(coordinates[i], coordinates[i+1]))
	}
	return l
}

func invalid() api.Region {
	return api.Region{Rows: []api.Row{{Y: 0, Runs: []api.Run{{From: 0, To: 5}, {From: 5, To: 7}}}}}
}

// P34.1, P34.2, P34.7.
func TestPaths(t *testing.T) {
	square := read(0, 0, "###", "###", "###")
	for _, q := range []struct {
		r          api.Region
		a, b       api.Cell
		path, easy []api.Cell
	}{
		{read(0, 0, "##", "##"), cell(0, 0), cell(1, 1), cells(0, 0, 1, 0, 1, 1), cells(0, 0, 1, 0, 1, 1)},
		{square, cell(0, 0), cell(2, 2), cells(0, 0, 1, 0, 2, 0, 2, 1, 2, 2), cells(0, 0, 1, 0, 2, 0, 2, 1, 2, 2)},
		{square, cell(2, 2), cell(0, 0), cells(2, 2, 1, 2, 0, 2, 0, 1, 0, 0), cells(2, 2, 1, 2, 0, 2, 0, 1, 0, 0)},
		{square, cell(1, 1), cell(1, 1), cells(1, 1), cells(1, 1)},
		{square, cell(0, 0), cell(3, 0), nil, nil},
		{square, cell(-1, 0), cell(0, 0), nil, nil},
		{square, cell(9, 9), cell(9, 9), nil, nil},
		{read(0, 0, ".#", "#."), cell(0, 0), cell(1, 1), nil, nil},
		{api.Region{}, cell(0, 0), cell(0, 0), nil, nil},
		{invalid(), cell(0, 0), cell(1, 0), nil, nil},
		{invalid(), cell(0, 0), cell(0, 0), nil, nil},
		{square, cell(math.MaxInt, 0), cell(math.MinInt, 0), nil, nil},
		// Around a hole, to the right first; and around the end of a wall.
		{read(0, 0, "###", "#.#", "###"), cell(0, 1), cell(2, 1), cells(0, 1, 0, 2, 1, 2, 2, 2, 2, 1), cells(0, 1, 0, 2, 1, 2, 2, 2, 2, 1)},
		{read(0, 0, "###", "#.#", "#.#"), cell(0, 0), cell(2, 0), cells(0, 0, 0, 1, 0, 2, 1, 2, 2, 2, 2, 1, 2, 0), cells(0, 0, 0, 1, 0, 2, 1, 2, 2, 2, 2, 1, 2, 0)},
		{read(0, 0, "###", "#.#", "###"), cell(1, 0), cell(1, 2), cells(1, 0, 2, 0, 2, 1, 2, 2, 1, 2), cells(1, 0, 2, 0, 2, 1, 2, 2, 1, 2)},
		{read(0, 0, "###", "#.#", "###"), cell(1, 2), cell(1, 0), cells(1, 2, 2, 2, 2, 1, 2, 0, 1, 0), cells(1, 2, 2, 2, 2, 1, 2, 0, 1, 0)},
		// The search meets the goal on a way with more turns than needed.
		{read(0, 0, "####", "##.#", "####"), cell(0, 0), cell(3, 2), cells(0, 0, 1, 0, 2, 0, 3, 0, 3, 1, 3, 2), cells(0, 0, 1, 0, 2, 0, 3, 0, 3, 1, 3, 2)},
		{read(0, 0, "..#", "###", "##."), cell(0, 0), cell(2, 2), cells(0, 0, 1, 0, 1, 1, 2, 1, 2, 2), cells(0, 0, 0, 1, 1, 1, 2, 1, 2, 2)},
		{read(-edge, -edge, "##"), cell(-edge, -edge), cell(1-edge, -edge), cells(-edge, -edge, 1-edge, -edge), cells(-edge, -edge, 1-edge, -edge)},
		{read(edge-1, edge-2, "#", "#"), cell(edge-1, edge-1), cell(edge-1, edge-2), cells(edge-1, edge-1, edge-1, edge-2), cells(edge-1, edge-1, edge-1, edge-2)},
	} {
		picture := region.Picture(q.r)
		if got, ok := Path(q.r, q.a, q.b); !slices.Equal(got, q.path) || ok != (len(q.path) > 0) {
			t.Errorf("Path from %v to %v in\n%sis %v, %v; want %v", q.a, q.b, picture, got, ok, q.path)
		}
		if got := Distance(q.r, q.a, q.b); got != len(q.path)-1 {
			t.Errorf("Distance from %v to %v in\n%sis %d", q.a, q.b, picture, got)
		}
		if got, ok := Easy(q.r, q.a, q.b); !slices.Equal(got, q.easy) || ok != (len(q.easy) > 0) {
			t.Errorf("Easy from %v to %v in\n%sis %v, %v; want %v", q.a, q.b, picture, got, ok, q.easy)
		}
	}
}

// P34.3.
func TestStraight(t *testing.T) {
	for _, q := range []struct {
		a, b api.Cell
		want []api.Cell
	}{
		{cell(0, 0), cell(-1, 1), cells(0, 0, -1, 0, -1, 1)},
		{cell(3, 4), cell(3, 4), cells(3, 4)},
		{cell(1, 5), cell(3, 3), cells(1, 5, 2, 5, 3, 5, 3, 4, 3, 3)},
		{cell(0, 2), cell(0, 0), cells(0, 2, 0, 1, 0, 0)},
		{cell(edge-1, -edge), cell(edge-2, -edge), cells(edge-1, -edge, edge-2, -edge)},
		{cell(edge, 0), cell(0, 0), nil}, {cell(0, 0), cell(0, -edge-1), nil}, {cell(0, edge), cell(0, edge), nil}, {cell(0, 0), cell(math.MaxInt, math.MinInt), nil}, {cell(-edge-1, 0), cell(0, 0), nil},
	} {
		if got := Straight(q.a, q.b); !slices.Equal(got, q.want) {
			t.Errorf("Straight(%v, %v) = %v; want %v", q.a, q.b, got, q.want)
		}
	}
	if got := Straight(cell(-edge, edge-1), cell(edge-1, -edge)); len(got) != 4*edge-1 {
		t.Errorf("the longest way has %d cells", len(got))
	}
}

// P34.6.
func TestTurns(t *testing.T) {
	for _, q := range []struct {
		l    []api.Cell
		want int
	}{
		{nil, 0}, {cells(1, 1), 0}, {cells(1, 1, 2, 1), 0}, {cells(0, 0, 1, 0, 2, 0), 0}, {cells(0, 0, 1, 0, 1, 1), 1}, {cells(0, 0, 1, 0, 1, 1, 2, 1, 2, 2), 3},
		{cells(0, 0, 1, 0, 0, 0), 1}, {cells(0, 0, 1, 0, 1, 1, 0, 1, 0, 0), 3}, {cells(edge-2, 0, edge-1, 0, edge-1, 1), 1},
		{cells(0, 0, 1, 0, 1, 1, 1, 1), 0}, {cells(0, 0, 1, 0, 1, 1, 2, 2), 0}, {cells(0, 0, 1, 0, 1, 1, 3, 1), 0}, {cells(edge-2, 0, edge-2, 1, edge-1, 1, edge, 1), 0},
		{cells(edge, 0), 0}, {cells(0, 0, 1, 0, 1, 1, math.MaxInt, 1), 0}, {cells(math.MinInt, 0, 0, 0, 0, 1), 0}, {cells(0, -edge-1, 0, -edge, 1, -edge), 0},
	} {
		if got := Turns(q.l); got != q.want {
			t.Errorf("Turns(%v) = %d; want %d", q.l, got, q.want)
		}
	}
}

// flood returns the distances of all cells of a map that can be reached.
func flood(inside map[api.Cell]bool, from api.Cell) map[api.Cell]int {
	distances := map[api.Cell]int{}
	if !inside[from] {
		return distances
	}
	distances[from] = 0
	for queue := []api.Cell{from}; len(queue) > 0; queue = queue[1:] {
		for _, d := range directions() {
			next := plus(queue[0], d)
			if _, met := distances[next]; inside[next] && !met {
				distances[next] = distances[queue[0]] + 1
				queue = append(queue, next)
			}
		}
	}
	return distances
}

// shortest returns all shortest paths from a cell to the one from which the distances are, in their order.
func shortest(distances map[api.Cell]int, a api.Cell) [][]api.Cell {
	n, found := distances[a]
	if !found {
		return nil
	}
	if n == 0 {
		return [][]api.Cell{{a}}
	}
	var l [][]api.Cell
	for _, d := range directions() {
		if m, met := distances[plus(a, d)]; met && m == n-1 {
			for _, rest := range shortest(distances, plus(a, d)) {
				l = append(l, append([]api.Cell{a}, rest...))
			}
		}
	}
	return l
}

// search returns the path by the predecessors of a search that goes on to the end.
func search(inside map[api.Cell]bool, a, b api.Cell) []api.Cell {
	if !inside[a] || !inside[b] {
		return nil
	}
	queued, before := map[api.Cell]bool{a: true}, map[api.Cell]api.Cell{}
	for queue := []api.Cell{a}; len(queue) > 0; queue = queue[1:] {
		c := queue[0]
		for _, next := range cells(c.X+1, c.Y, c.X-1, c.Y, c.X, c.Y+1, c.X, c.Y-1) {
			if inside[next] && !queued[next] {
				queued[next], before[next] = true, c
				queue = append(queue, next)
			}
		}
	}
	if !queued[b] {
		return nil
	}
	path := []api.Cell{b}
	for path[0] != a {
		path = append([]api.Cell{before[path[0]]}, path...)
	}
	return path
}

// P34.1, P34.2, P34.4, P34.5, P34.7, P34.8.
func TestAnyRegion(t *testing.T) {
	random := rand.New(rand.NewSource(34))
	easier := 0
	for range 3000 {
		inside := map[api.Cell]bool{}
		var l []api.Cell
		density := 2 + random.Intn(6)
		for x := range 2 + random.Intn(5) {
			for y := range 2 + random.Intn(5) {
				if c := cell(x-2, y-2); random.Intn(density) > 0 {
					inside[c] = true
					l = append(l, c)
				}
			}
		}
		r, _ := region.Of(l)
		picture := region.Picture(r)
		a, b := cell(random.Intn(6)-2, random.Intn(6)-2), cell(random.Intn(6)-2, random.Intn(6)-2)
		path, ok := Path(r, a, b)
		if want := search(inside, a, b); !slices.Equal(path, want) || ok != (len(want) > 0) {
			t.Errorf("Path from %v to %v in\n%sis %v, %v; want %v", a, b, picture, path, ok, want)
		}
		easy, okEasy := Easy(r, a, b)
		var want []api.Cell
		for _, p := range shortest(flood(inside, b), a) {
			if want == nil || inside[a] && Turns(p) < Turns(want) {
				want = p
			}
		}
		if !slices.Equal(easy, want) || okEasy != ok {
			t.Errorf("Easy from %v to %v in\n%sis %v, %v; want %v", a, b, picture, easy, okEasy, want)
		}
		if Turns(easy) < Turns(path) {
			easier++
		}
		back, _ := Easy(r, b, a)
		if Turns(back) != Turns(easy) || Distance(r, a, b) != Distance(r, b, a) || Distance(r, a, b) != len(path)-1 || ok && len(path) < len(Straight(a, b)) {
			t.Errorf("from %v to %v in\n%sthe distance is %d, and back %d", a, b, picture, Distance(r, a, b), Distance(r, b, a))
		}
	}
	if easier < 20 {
		t.Errorf("only %d paths are easier", easier)
	}
}

// P34.1, P34.7: a large region.
func TestLargeRegion(t *testing.T) {
	var r api.Region
	for y := range 300 {
		r.Rows = append(r.Rows, api.Row{Y: y, Runs: []api.Run{{From: 0, To: 300}}})
	}
	a, b := cell(0, 0), cell(299, 299)
	path, ok := Path(r, a, b)
	easy, okEasy := Easy(r, a, b)
	if !ok || !okEasy || !slices.Equal(path, Straight(a, b)) || !slices.Equal(easy, path) {
		t.Errorf("Path: %d cells, Easy: %d cells", len(path), len(easy))
	}
}
