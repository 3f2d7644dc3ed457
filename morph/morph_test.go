package morph

import (
	"math"
	"math/rand"
	"testing"

	"additive/api"
	"additive/region"
)

const edge = api.MaxCell

// read returns the region of a picture whose last line begins at (x, y).
func read(x, y int, lines ...string) api.Region {
	text := ""
	for _, line := range lines {
		text += line + "\n"
	}
	r, e := region.Read(text, api.Cell{X: x, Y: y})
	if e != api.OK {
		panic("wrong picture")
	}
	return r
}

func one(x, y int) api.Region { return read(x, y, "#") }

// rectangle returns the cells from (x, y) to (u, v).
func rectangle(x, y, u, v int) api.Region {
	var r api.Region
	for ; y <= v; y++ {
		r.Rows = append(r.Rows, api.Row{Y: y, Runs: []api.Run{{From: x, To: u + 1}}})
	}
	return r
}

func invalid() api.Region {
	return api.Region{Rows: []api.Row{{Y: 0, Runs: []api.Run{{From: 3, To: 3}}}}}
}

// shape tells whether a cell at a distance belongs to the square or the diamond with the reach k.
type shape func(dx, dy, k int) bool

func square(dx, dy, k int) bool  { return max(dx, -dx) <= k && max(dy, -dy) <= k }
func diamond(dx, dy, k int) bool { return max(dx, -dx)+max(dy, -dy) <= k }

// around calls visit for each cell of the shape of c.
func around(c api.Cell, k int, in shape, visit func(api.Cell)) {
	for dx := -k; dx <= k; dx++ {
		for dy := -k; dy <= k; dy++ {
			if in(dx, dy, k) {
				visit(api.Cell{X: c.X + dx, Y: c.Y + dy})
			}
		}
	}
}

// dilate dilates a region cell by cell.
func dilate(r api.Region, k int, in shape) (api.Region, api.Errno) {
	l := []api.Cell{}
	for _, c := range region.Cells(r) {
		around(c, k, in, func(n api.Cell) { l = append(l, n) })
	}
	return region.Of(l)
}

// erode erodes a region cell by cell.
func erode(r api.Region, k int, in shape) api.Region {
	inside := map[api.Cell]bool{}
	for _, c := range region.Cells(r) {
		inside[c] = true
	}
	l := []api.Cell{}
	for c := range inside {
		whole := true
		around(c, k, in, func(n api.Cell) { whole = whole && inside[n] })
		if whole {
			l = append(l, c)
		}
	}
	eroded, _ := region.Of(l)
	return eroded
}

// randomRegion returns a region with few holes, sometimes at a border of the grid.
func randomRegion(random *rand.Rand) api.Region {
	width, height := 1+random.Intn(12), 1+random.Intn(12)
	at := api.Cell{X: []int{-5, -5, -edge, edge - width}[random.Intn(4)], Y: []int{-5, -5, -edge, edge - height}[random.Intn(4)]}
	density := 2 + random.Intn(30)
	l := []api.Cell{}
	for x := range width {
		for y := range height {
			if random.Intn(density) > 0 {
				l = append(l, api.Cell{X: at.X + x, Y: at.Y + y})
			}
		}
	}
	r, _ := region.Of(l)
	return r
}

// compare compares a region with the one that is wanted, and checks that it is valid.
func compare(t *testing.T, what string, r api.Region, k int, got, want api.Region) {
	t.Helper()
	if !region.Same(got, want) {
		t.Errorf("%s of %v by %d is %v; want %v", what, r, k, got, want)
	}
}

// P20.1, P20.2, P20.4, P20.5: the examples.
func TestExamples(t *testing.T) {
	nine, e := Dilate(one(0, 0), 1)
	if !region.Same(nine, rectangle(-1, -1, 1, 1)) || e != api.OK {
		t.Errorf("Dilate = %v, %d", nine, e)
	}
	compare(t, "Erode", nine, 1, Erode(nine, 1), one(0, 0))
	flag := region.Union(rectangle(0, 0, 2, 2), one(3, 1))
	compare(t, "Open", flag, 1, Open(flag, 1), rectangle(0, 0, 2, 2))
	compare(t, "Ring", rectangle(0, 0, 3, 3), 1, Ring(rectangle(0, 0, 3, 3)), read(0, 0, "####", "#..#", "#..#", "####"))
	if r, e := Dilate(one(4095, 0), 1); e != api.ErrRange || len(r.Rows) != 0 {
		t.Errorf("Dilate at the border = %v, %d", r, e)
	}
	five, e := DilateCross(one(0, 0), 1)
	if !region.Same(five, read(-1, -1, ".#.", "###", ".#.")) || e != api.OK {
		t.Errorf("DilateCross by 1 = %v, %d", five, e)
	}
	thirteen, e := DilateCross(one(0, 0), 2)
	if !region.Same(thirteen, read(-2, -2, "..#..", ".###.", "#####", ".###.", "..#..")) || e != api.OK {
		t.Errorf("DilateCross by 2 = %v, %d", thirteen, e)
	}
	compare(t, "ErodeCross", thirteen, 1, ErodeCross(thirteen, 1), five)
}

// P20.1 to P20.5: arguments that are not valid, and the borders of the grid.
func TestErrors(t *testing.T) {
	all := rectangle(-edge, -edge, edge-1, edge-1)
	for _, q := range []struct {
		r api.Region
		k int
		e api.Errno
	}{
		{one(0, 0), -1, api.ErrArg}, {one(0, 0), 65, api.ErrArg}, {one(0, 0), math.MinInt, api.ErrArg}, {one(0, 0), math.MaxInt, api.ErrArg},
		{invalid(), 1, api.ErrArg}, {invalid(), 0, api.ErrArg}, {one(edge-1, 0), 65, api.ErrArg}, {api.Region{}, -1, api.ErrArg},
		{one(edge-1, 0), 0, api.OK}, {one(edge-1, 0), 1, api.ErrRange}, {one(edge-65, 0), 64, api.OK}, {one(edge-64, 0), 64, api.ErrRange},
		{one(-edge+7, 0), 7, api.OK}, {one(-edge+6, 0), 7, api.ErrRange}, {one(0, edge-8), 7, api.OK}, {one(0, edge-7), 7, api.ErrRange},
		{one(0, -edge+7), 7, api.OK}, {one(0, -edge+6), 7, api.ErrRange}, {api.Region{}, 64, api.OK}, {all, 0, api.OK}, {all, 1, api.ErrRange},
	} {
		dilated, e := Dilate(q.r, q.k)
		closed, eClose := Close(q.r, q.k)
		crossed, eCross := DilateCross(q.r, q.k)
		if e != q.e || eClose != q.e || eCross != q.e {
			t.Errorf("Dilate(%v, %d), Close and DilateCross: errors %d, %d and %d; want %d", q.r, q.k, e, eClose, eCross, q.e)
		}
		if e != api.OK && len(dilated.Rows)+len(closed.Rows)+len(crossed.Rows) != 0 {
			t.Errorf("Dilate(%v, %d) = %v, Close %v, DilateCross %v", q.r, q.k, dilated, closed, crossed)
		}
		if q.e == api.ErrArg {
			none := len(Erode(q.r, q.k).Rows) + len(Open(q.r, q.k).Rows) + len(ErodeCross(q.r, q.k).Rows)
			if none != 0 {
				t.Errorf("Erode(%v, %d) = %v, Open %v, ErodeCross %v", q.r, q.k, Erode(q.r, q.k), Open(q.r, q.k), ErodeCross(q.r, q.k))
			}
		}
	}
	if r := Ring(invalid()); len(r.Rows) != 0 {
		t.Errorf("Ring of a region that is not valid = %v", r)
	}
	// The erosion of the whole grid: no cell outside of it is in the region.
	compare(t, "Erode", all, 64, Erode(all, 64), rectangle(-edge+64, -edge+64, edge-65, edge-65))
	compare(t, "Open", all, 64, Open(all, 64), all)
	compare(t, "ErodeCross", all, 5, ErodeCross(all, 5), rectangle(-edge+5, -edge+5, edge-6, edge-6))
}

// P20.1 to P20.5.
func TestAnyRegion(t *testing.T) {
	random := rand.New(rand.NewSource(20))
	rest := 0
	for range 500 {
		r := randomRegion(random)
		given := region.Picture(r)
		k := random.Intn(5)
		dilated, e := Dilate(r, k)
		want, wantE := dilate(r, k, square)
		if e != wantE {
			t.Errorf("Dilate(%v, %d): error %d; want %d", r, k, e, wantE)
		}
		compare(t, "Dilate", r, k, dilated, want)
		eroded := Erode(r, k)
		compare(t, "Erode", r, k, eroded, erode(r, k, square))
		opened, _ := dilate(eroded, k, square)
		compare(t, "Open", r, k, Open(r, k), opened)
		closed, eClose := Close(r, k)
		if eClose != e {
			t.Errorf("Close(%v, %d): error %d; want %d", r, k, eClose, e)
		}
		if e == api.OK {
			compare(t, "Close", r, k, closed, erode(dilated, k, square))
		}
		compare(t, "Ring", r, 1, Ring(r), region.Subtract(r, erode(r, 1, square)))
		crossed, eCross := DilateCross(r, k)
		want, wantE = dilate(r, k, diamond)
		if eCross != wantE {
			t.Errorf("DilateCross(%v, %d): error %d; want %d", r, k, eCross, wantE)
		}
		compare(t, "DilateCross", r, k, crossed, want)
		compare(t, "ErodeCross", r, k, ErodeCross(r, k), erode(r, k, diamond))
		if region.Picture(r) != given {
			t.Fatalf("%v has been changed", r)
		}
		if k > 0 {
			rest += region.Count(eroded)
		}
	}
	if rest < 300 {
		t.Errorf("only %d cells remain", rest)
	}
}

// P20.1, P20.2, P20.3, P20.5: the consequences, with large reaches.
func TestLaws(t *testing.T) {
	random := rand.New(rand.NewSource(21))
	for range 60 {
		var r, s api.Region
		for range 1 + random.Intn(6) {
			x, y := random.Intn(300)-150, random.Intn(300)-150
			r = region.Union(r, rectangle(x, y, x+random.Intn(150), y+random.Intn(150)))
			s = region.Union(s, rectangle(y, x, y+random.Intn(200), x+random.Intn(200)))
		}
		j, k := random.Intn(33), random.Intn(33)
		d, _ := Dilate(r, j+k)
		first, _ := Dilate(r, j)
		second, _ := Dilate(first, k)
		compare(t, "Dilate", r, j+k, d, second)
		compare(t, "Erode", r, j+k, Erode(r, j+k), Erode(Erode(r, j), k))
		crossed, _ := DilateCross(r, k)
		squared, _ := Dilate(r, k)
		if region.Within(squared, s) != region.Within(r, Erode(s, k)) || region.Within(crossed, s) != region.Within(r, ErodeCross(s, k)) {
			t.Errorf("dilation and erosion by %d are not adjoint for %v and %v", k, r, s)
		}
		if !region.Within(squared, d) || !region.Within(Erode(d, k), d) || !region.Within(r, Erode(squared, k)) || !region.Within(r, ErodeCross(crossed, k)) {
			t.Errorf("offsets of %v by %d and %d are not monotone", r, j, k)
		}
		if !region.Within(crossed, squared) || !region.Within(Erode(r, k), ErodeCross(r, k)) {
			t.Errorf("the diamonds of %v with the reach %d are not within the squares", r, k)
		}
		opened := Open(r, k)
		closed, _ := Close(r, k)
		closedTwice, _ := Close(closed, k)
		if !region.Within(opened, r) || !region.Within(r, closed) {
			t.Errorf("Open and Close of %v by %d are not around it", r, k)
		}
		compare(t, "Open of Open", r, k, Open(opened, k), opened)
		compare(t, "Close of Close", r, k, closedTwice, closed)
		both, _ := Dilate(region.Union(r, s), k)
		other, _ := Dilate(s, k)
		compare(t, "Dilate of a union", r, k, both, region.Union(squared, other))
	}
}

// P20.1 and rule 0.4: a result shares no memory with the argument.
func TestNewMemory(t *testing.T) {
	r := rectangle(0, 0, 4, 4)
	dilated, _ := Dilate(r, 0)
	closed, _ := Close(r, 0)
	crossed, _ := DilateCross(r, 0)
	for i, got := range []api.Region{dilated, Erode(r, 0), Open(r, 0), closed, crossed, ErodeCross(r, 0)} {
		if !region.Same(got, r) {
			t.Errorf("result %d is %v", i, got)
		}
		for k := range got.Rows {
			got.Rows[k].Runs[0].From = 2
		}
		if !region.Same(r, rectangle(0, 0, 4, 4)) {
			t.Fatalf("result %d shares memory with the argument", i)
		}
	}
}
