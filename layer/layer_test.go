package layer

import (
	"math"
	"math/rand"
	"slices"
	"testing"

	"additive/adhere"
	"additive/api"
	"additive/bridge"
	"additive/hatch"
	"additive/region"
	"additive/skin"
	"additive/support"
	"additive/thin"
	"additive/track"
	"additive/walls"
)

const edge = api.MaxCell

// settings returns valid settings with few tracks.
func settings() api.Settings {
	return api.Settings{Pitch: 40, Height: 20, Walls: 1, Top: 1, Bottom: 1, Spacing: 2, Drop: 1000, Feed: 4000, Travel: 8000, MinFeed: 40}
}

// rectangle returns the cells from (x, y) to (u, v).
func rectangle(x, y, u, v int) api.Region {
	var r api.Region
	for ; y <= v; y++ {
		r.Rows = append(r.Rows, api.Row{Y: y, Runs: []api.Run{{From: x, To: u + 1}}})
	}
	return r
}

func invalid() api.Region {
	return api.Region{Rows: []api.Row{{Y: 0, Runs: []api.Run{{From: 0, To: edge + 1}}}}}
}

func same(a, b api.Track) bool {
	return a.Role == b.Role && a.Closed == b.Closed && slices.Equal(a.Cells, b.Cells)
}

// P37.1, P37.2: the example.
func TestExample(t *testing.T) {
	square := rectangle(0, 0, 4, 4)
	l, supports := []api.Region{square, square}, make([]api.Region, 2)
	solid, sparse, e := Fill(l, supports, 0, settings())
	if !region.Same(solid, rectangle(1, 1, 3, 3)) || len(sparse.Rows) != 0 || e != api.OK {
		t.Errorf("Fill = %v, %v, %d", solid, sparse, e)
	}
	got, e := Tracks(l, supports, 0, settings())
	if e != api.OK || len(got) != 2 || len(got[0].Cells) != 16 || !got[0].Closed || got[0].Role != api.RoWall || len(got[1].Cells) != 9 || got[1].Role != api.RoSkin {
		t.Errorf("Tracks = %v, %d", got, e)
	}
}

// P37.1, P37.2: arguments that are not valid.
func TestErrors(t *testing.T) {
	square := rectangle(0, 0, 4, 4)
	high := rectangle(edge-3, 0, edge-1, 4)
	none := make([]api.Region, 2)
	brim, skirt, both := settings(), settings(), settings()
	brim.Brim, skirt.Skirt, both.Brim, both.Skirt = 1, 1, 1, 1
	for i, q := range []struct {
		l, supports []api.Region
		i           int
		s           api.Settings
		fill, e     api.Errno
	}{
		{[]api.Region{square, square}, none, 1, settings(), api.OK, api.OK},
		{[]api.Region{square, square}, none, 2, settings(), api.ErrArg, api.ErrArg},
		{[]api.Region{square, square}, none, -1, settings(), api.ErrArg, api.ErrArg},
		{[]api.Region{square, square}, none, math.MaxInt, settings(), api.ErrArg, api.ErrArg},
		{[]api.Region{square, square}, none, math.MinInt, settings(), api.ErrArg, api.ErrArg},
		{nil, nil, 0, settings(), api.ErrArg, api.ErrArg},
		{[]api.Region{square, square}, none[:1], 0, settings(), api.ErrArg, api.ErrArg},
		{[]api.Region{square}, none, 0, settings(), api.ErrArg, api.ErrArg},
		{[]api.Region{square, invalid()}, none, 0, settings(), api.ErrArg, api.ErrArg},
		{[]api.Region{square, square}, []api.Region{{}, invalid()}, 0, settings(), api.ErrArg, api.ErrArg},
		{[]api.Region{square, square}, none, 0, api.Settings{}, api.ErrArg, api.ErrArg},
		{[]api.Region{high, square}, none, 0, settings(), api.OK, api.OK},
		{[]api.Region{high, square}, none, 0, brim, api.OK, api.ErrRange},
		{[]api.Region{high, square}, none, 0, skirt, api.OK, api.ErrRange},
		{[]api.Region{square, high}, none, 1, both, api.OK, api.OK},
		{[]api.Region{square, square}, []api.Region{high, {}}, 0, brim, api.OK, api.ErrRange},
		{[]api.Region{square, square}, []api.Region{high, {}}, 1, brim, api.OK, api.OK},
	} {
		solid, sparse, e := Fill(q.l, q.supports, q.i, q.s)
		if e != q.fill || e != api.OK && len(solid.Rows)+len(sparse.Rows) != 0 {
			t.Errorf("case %d: Fill: error %d; want %d", i, e, q.fill)
		}
		if got, e := Tracks(q.l, q.supports, q.i, q.s); e != q.e || e != api.OK && len(got) != 0 {
			t.Errorf("case %d: Tracks: error %d; want %d", i, e, q.e)
		}
	}
}

// dots returns so many single cells that are apart.
func dots(n int) api.Region {
	var l []api.Cell
	for i := range n {
		l = append(l, api.Cell{X: i % 64 * 2, Y: i / 64 * 2})
	}
	r, _ := region.Of(l)
	return r
}

// P37.2: as many tracks as are allowed, and one more.
func TestLimit(t *testing.T) {
	if got, e := Tracks([]api.Region{dots(api.MaxTracks)}, make([]api.Region, 1), 0, settings()); len(got) != api.MaxTracks || e != api.OK {
		t.Errorf("Tracks: %d tracks, error %d", len(got), e)
	}
	if got, e := Tracks([]api.Region{dots(api.MaxTracks + 1)}, make([]api.Region, 1), 0, settings()); len(got) != 0 || e != api.ErrLimit {
		t.Errorf("Tracks: %d tracks, error %d", len(got), e)
	}
}

// tracks collects the tracks of a layer by the definition.
func tracks(l, supports []api.Region, i int, s api.Settings) []api.Track {
	r := l[i]
	thick, narrow := thin.Split(r)
	wall, inner := walls.Walls(thick, s.Walls)
	solid, sparse := skin.Skin(l, i, s.Top, s.Bottom)
	solid, sparse = region.Intersect(solid, inner), region.Intersect(sparse, inner)
	below, foot := r, region.Union(r, supports[i])
	if i > 0 {
		below = region.Union(l[i-1], supports[i-1])
	}
	var all []api.Track
	if i == 0 && s.Skirt > 0 {
		skirt, _ := adhere.Skirt(foot, s.Skirt)
		all = append(all, skirt...)
	}
	if i == 0 && s.Brim > 0 {
		brim, _ := adhere.Brim(foot, s.Brim)
		all = append(all, brim...)
	}
	all = append(all, wall...)
	all = append(all, thin.Lines(narrow)...)
	bridges, _ := bridge.Bridges(solid, below)
	all = append(all, bridges...)
	all = append(all, hatch.Zigzag(region.Subtract(solid, track.Cover(bridges)))...)
	all = append(all, hatch.Pattern(sparse, s.Pattern, s.Spacing, i)...)
	for _, row := range hatch.Rows(region.Subtract(supports[i], r), s.Spacing, 0) {
		all = append(all, api.Track{Role: api.RoSupport, Cells: row.Cells})
	}
	return track.Once(all)
}

// randomLayers returns layers of rectangles, and their supports, which may overlap the layers.
func randomLayers(random *rand.Rand, s api.Settings) ([]api.Region, []api.Region) {
	var l []api.Region
	for range 1 + random.Intn(4) {
		var r api.Region
		for range 1 + random.Intn(4) {
			x, y := random.Intn(16), random.Intn(16)
			r = region.Union(r, rectangle(x, y, x+random.Intn(14), y+random.Intn(14)))
		}
		l = append(l, r)
	}
	supports, _ := support.Supports(l, s.Reach, s.Gap)
	if random.Intn(3) == 0 {
		supports[0] = region.Union(supports[0], rectangle(3, 3, 9, 9))
	}
	return l, supports
}

// P37.1, P37.2, P37.3.
func TestAnyLayer(t *testing.T) {
	random := rand.New(rand.NewSource(37))
	roles := [8]int{}
	for range 300 {
		s := settings()
		s.Walls, s.Top, s.Bottom, s.Pattern, s.Spacing = random.Intn(3), random.Intn(3), random.Intn(3), random.Intn(4), 1+random.Intn(4)
		s.Brim, s.Skirt, s.Gap, s.Reach = random.Intn(3), random.Intn(4), random.Intn(2), random.Intn(2)
		l, supports := randomLayers(random, s)
		i := random.Intn(len(l))
		got, e := Tracks(l, supports, i, s)
		if want := tracks(l, supports, i, s); !slices.EqualFunc(got, want, same) || e != api.OK {
			t.Errorf("Tracks(%v, %v, %d, %v) = %v, %d; want %v", l, supports, i, s, got, e, want)
		}
		solid, sparse, e := Fill(l, supports, i, s)
		if e != api.OK || len(region.Intersect(solid, sparse).Rows) > 0 {
			t.Errorf("Fill(%v, %v, %d, %v) = %v, %v, %d", l, supports, i, s, solid, sparse, e)
		}
		check(t, got, l[i], supports[i], sparse, s)
		for _, o := range got {
			roles[o.Role]++
		}
	}
	for role := api.RoWall; role <= api.RoBrim; role++ {
		if roles[role] < 30 {
			t.Errorf("only %d tracks have the role %d", roles[role], role)
		}
	}
}

// check checks where the tracks of each role lie.
func check(t *testing.T, l []api.Track, r, supports, sparse api.Region, s api.Settings) {
	t.Helper()
	var part, held, brim []api.Track
	n := 0
	for _, o := range l {
		n += len(o.Cells)
		switch o.Role {
		case api.RoSupport:
			held = append(held, o)
		case api.RoBrim:
			brim = append(brim, o)
		default:
			part = append(part, o)
		}
	}
	cover := track.Cover(part)
	if n != region.Count(track.Cover(l)) || !region.Within(cover, r) || !region.Within(region.Subtract(r, sparse), cover) {
		t.Errorf("the tracks %v do not cover %v", l, r)
	}
	if hatch.Far(sparse, region.Intersect(cover, sparse)) > s.Spacing {
		t.Errorf("the tracks %v are too far from %v", l, sparse)
	}
	if !region.Within(track.Cover(held), region.Subtract(supports, r)) || len(region.Intersect(track.Cover(brim), region.Union(r, supports)).Rows) > 0 {
		t.Errorf("the supports %v or the brim %v are in the wrong place", held, brim)
	}
}
