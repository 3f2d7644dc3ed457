package adhere

import (
	"math"
	"math/rand"
	"slices"
	"testing"

	"additive/api"
	"additive/hatch"
	"additive/morph"
	"additive/parts"
	"additive/region"
	"additive/ringwalk"
	"additive/track"
)

const edge = api.MaxCell

// read returns the region of a picture whose last line begins at (x, y).
func read(x, y int, lines ...string) api.Region {
	text := ""
	for _, line := range lines {
		text += line + "\n"
	}
	r, e := region.Read(text, api.Cell{X: x, Y: y})
	if e != api.OK {
		panic("wrong picture")
	}
	return r
}

// cells returns cells whose coordinates are given in pairs.
func cells(coordinates ...int) []api.Cell {
	l := []api.Cell{}
	for i := 0; i < len(coordinates); i += 2 {
		l = append(l, api.Cell{X: coordinates[i], Y: coordinates[i+1]})
	}
	return l
}

func invalid() api.Region {
	return api.Region{Rows: []api.Row{{Y: 0}}}
}

func same(a, b api.Track) bool {
	return a.Role == b.Role && a.Closed == b.Closed && slices.Equal(a.Cells, b.Cells)
}

func brimTrack(closed bool, coordinates ...int) api.Track {
	return api.Track{Role: api.RoBrim, Closed: closed, Cells: cells(coordinates...)}
}

// withRole returns copies of tracks with the role RoBrim.
func withRole(l []api.Track) []api.Track {
	var tracks []api.Track
	for _, t := range l {
		tracks = append(tracks, api.Track{Role: api.RoBrim, Closed: t.Closed, Cells: t.Cells})
	}
	return tracks
}

// P32.1, P32.2, P32.3: the examples.
func TestExamples(t *testing.T) {
	one := read(0, 0, "#")
	around := brimTrack(true, -1, -1, 0, -1, 1, -1, 1, 0, 1, 1, 0, 1, -1, 1, -1, 0)
	if got, e := Brim(one, 1); e != api.OK || len(got) != 1 || !same(got[0], around) {
		t.Errorf("Brim by 1 = %v, %d", got, e)
	}
	if got, e := Brim(one, 2); e != api.OK || len(got) != 2 || len(got[0].Cells) != 16 || !got[0].Closed || got[0].Role != api.RoBrim || !same(got[1], around) {
		t.Errorf("Brim by 2 = %v, %d", got, e)
	}
	if got, e := Brim(one, 0); e != api.OK || len(got) != 0 {
		t.Errorf("Brim by 0 = %v, %d", got, e)
	}
	got, r, e := Raft(one, 1)
	if want := brimTrack(false, 1, -1, 0, -1, -1, -1, -1, 0, 0, 0, 1, 0, 1, 1, 0, 1, -1, 1); e != api.OK || len(got) != 1 || !same(got[0], want) || !region.Same(r, read(-1, -1, "###", "###", "###")) {
		t.Errorf("Raft by 1 = %v, %v, %d", got, r, e)
	}
	if got, e := Skirt(one, 1); e != api.OK || len(got) != 1 || len(got[0].Cells) != 16 || !got[0].Closed || got[0].Role != api.RoBrim || got[0].Cells[0] != (api.Cell{X: -2, Y: -2}) {
		t.Errorf("Skirt = %v, %d", got, e)
	}
}

// P32.1, P32.2, P32.3: the errors.
func TestErrors(t *testing.T) {
	one := read(0, 0, "#")
	for _, q := range []struct {
		r    api.Region
		n    int
		e    api.Errno
		raft api.Errno
	}{
		{one, 64, api.OK, api.OK}, {one, 0, api.OK, api.OK}, {one, -1, api.ErrArg, api.ErrArg}, {one, 65, api.ErrArg, api.ErrArg},
		{one, math.MinInt, api.ErrArg, api.ErrArg}, {one, math.MaxInt, api.ErrArg, api.ErrArg}, {invalid(), 1, api.ErrArg, api.ErrArg}, {invalid(), 0, api.ErrArg, api.ErrArg},
		{api.Region{}, 65, api.ErrArg, api.ErrArg}, {api.Region{}, 64, api.OK, api.OK},
		{read(edge-1, 0, "#"), 65, api.ErrArg, api.ErrArg}, {read(edge-1, 0, "#"), 1, api.ErrRange, api.ErrRange}, {read(0, -edge+5, "#"), 5, api.OK, api.OK}, {read(0, -edge+5, "#"), 6, api.ErrRange, api.ErrRange},
	} {
		if got, e := Brim(q.r, q.n); e != q.e || e != api.OK && len(got) != 0 {
			t.Errorf("Brim(%v, %d) = %v, %d; want %d", q.r, q.n, got, e, q.e)
		}
		if got, r, e := Raft(q.r, q.n); e != q.raft || e != api.OK && len(got)+len(r.Rows) != 0 {
			t.Errorf("Raft(%v, %d) = %v, %v, %d; want %d", q.r, q.n, got, r, e, q.raft)
		}
	}
	for _, q := range []struct {
		r   api.Region
		gap int
		e   api.Errno
	}{
		{one, 1, api.OK}, {one, 63, api.OK}, {one, 0, api.ErrArg}, {one, 64, api.ErrArg}, {one, -3, api.ErrArg}, {one, math.MaxInt, api.ErrArg},
		{invalid(), 1, api.ErrArg}, {invalid(), 0, api.ErrArg}, {api.Region{}, 5, api.OK}, {api.Region{}, 64, api.ErrArg},
		{read(edge-3, 0, "#"), 1, api.OK}, {read(edge-2, 0, "#"), 1, api.ErrRange}, {read(edge-1, 0, "#"), 1, api.ErrRange}, {read(edge-1, 0, "#"), 64, api.ErrArg},
	} {
		if got, e := Skirt(q.r, q.gap); e != q.e || e != api.OK && len(got) != 0 {
			t.Errorf("Skirt(%v, %d) = %v, %d; want %d", q.r, q.gap, got, e, q.e)
		}
	}
	if got, e := Skirt(api.Region{}, 5); len(got) != 0 || e != api.OK {
		t.Errorf("the skirt of nothing is %v, %d", got, e)
	}
}

func randomRegion(random *rand.Rand) api.Region {
	density := 2 + random.Intn(10)
	var l []api.Cell
	for x := range 1 + random.Intn(9) {
		for y := range 1 + random.Intn(9) {
			if random.Intn(density) > 0 {
				l = append(l, api.Cell{X: 2 * x, Y: 2 * y}, api.Cell{X: 2*x + random.Intn(3), Y: 2*y + random.Intn(2)})
			}
		}
	}
	r, _ := region.Of(l)
	return r
}

// brimOf makes the brim step by step.
func brimOf(r api.Region, n int) []api.Track {
	var l []api.Track
	for k := n; k > 0; k-- {
		d, _ := morph.Dilate(r, k)
		l = append(l, withRole(ringwalk.Walk(d))...)
	}
	l = track.Once(l)
	d, _ := morph.Dilate(r, n)
	return append(l, withRole(hatch.Zigzag(region.Subtract(region.Subtract(d, r), track.Cover(l))))...)
}

// P32.1 to P32.6.
func TestAnyRegion(t *testing.T) {
	random := rand.New(rand.NewSource(32))
	for range 300 {
		r := randomRegion(random)
		picture := region.Picture(r)
		n, gap := random.Intn(6), 1+random.Intn(4)
		got, e := Brim(r, n)
		if !slices.EqualFunc(got, brimOf(r, n), same) || e != api.OK {
			t.Errorf("Brim(\n%s, %d) = %v, %d", picture, n, got, e)
		}
		d, _ := morph.Dilate(r, n)
		checkCover(t, got, region.Subtract(d, r))
		skirt, e := Skirt(r, gap)
		near, _ := morph.Dilate(r, gap)
		around, _ := morph.Dilate(parts.Fill(near), 1)
		if !slices.EqualFunc(skirt, withRole(ringwalk.Walk(around)), same) || e != api.OK {
			t.Errorf("Skirt(\n%s, %d) = %v, %d", picture, gap, skirt, e)
		}
		next, _ := morph.Dilate(r, gap+1)
		cover := track.Cover(skirt)
		if len(region.Intersect(cover, near).Rows) > 0 || len(r.Rows) > 0 && len(region.Intersect(cover, next).Rows) == 0 {
			t.Errorf("Skirt(\n%s, %d) covers\n%s", picture, gap, region.Picture(cover))
		}
		raft, whole, e := Raft(r, n)
		want, _ := morph.Dilate(parts.Fill(r), n)
		more, _, _ := Raft(r, n+1)
		if !region.Same(whole, want) || e != api.OK || !slices.EqualFunc(raft, withRole(hatch.Zigzag(want)), same) || !region.Within(whole, track.Cover(more)) {
			t.Errorf("Raft(\n%s, %d) = %v, %v, %d", picture, n, raft, whole, e)
		}
		checkCover(t, raft, whole)
		if region.Picture(r) != picture {
			t.Fatalf("the region\n%shas been changed", picture)
		}
	}
}

// checkCover checks that tracks are valid tracks of a brim that cover each cell of a region once, and no other one.
func checkCover(t *testing.T, l []api.Track, r api.Region) {
	t.Helper()
	n := 0
	for _, b := range l {
		n += len(b.Cells)
		if !track.Valid(b) || b.Role != api.RoBrim {
			t.Errorf("the track %v", b)
		}
	}
	if n != region.Count(r) || !region.Same(track.Cover(l), r) {
		t.Errorf("%v covers other cells than %v", l, r)
	}
}

// P32.1: walks that are too long are left out, and their cells are filled.
func TestBrimOfLongBoundary(t *testing.T) {
	comb := api.Region{Rows: []api.Row{{Y: 0, Runs: []api.Run{{From: 0, To: 500}}}}}
	for y := 1; y < 700; y++ {
		row := api.Row{Y: y}
		for x := 0; x < 500; x += 5 {
			row.Runs = append(row.Runs, api.Run{From: x, To: x + 1})
		}
		comb.Rows = append(comb.Rows, row)
	}
	d, _ := morph.Dilate(comb, 1)
	walks := ringwalk.Walk(d)
	got, e := Brim(comb, 1)
	if e != api.OK || !slices.EqualFunc(got, brimOf(comb, 1), same) {
		t.Errorf("Brim: %d tracks, error %d", len(got), e)
	}
	checkCover(t, got, region.Subtract(d, comb))
	if slices.ContainsFunc(walks, func(w api.Track) bool { return w.Cells[0] == (api.Cell{X: -1, Y: -1}) }) {
		t.Error("no walk is too long")
	}
}
