package track

import (
	"math"
	"math/rand"
	"slices"
	"testing"

	"additive/api"
	"additive/region"
)

const edge = api.MaxCell

// cells returns cells whose coordinates are given in pairs.
func cells(coordinates ...int) []api.Cell {
	l := []api.Cell{}
	for i := 0; i < len(coordinates); i += 2 {
		l = append(l, api.Cell{X: coordinates[i], Y: coordinates[i+1]})
	}
	return l
}

func open(coordinates ...int) api.Track {
	return api.Track{Role: api.RoWall, Cells: cells(coordinates...)}
}

func closed(coordinates ...int) api.Track {
	return api.Track{Role: api.RoWall, Closed: true, Cells: cells(coordinates...)}
}

func same(a, b api.Track) bool {
	return a.Role == b.Role && a.Closed == b.Closed && slices.Equal(a.Cells, b.Cells)
}

// zigzag returns a valid track of n cells.
func zigzag(n int) api.Track {
	t := api.Track{Role: api.RoSkin}
	for i := range n {
		t.Cells = append(t.Cells, api.Cell{X: i % 2, Y: 0})
	}
	return t
}

// invalid are tracks that are not valid, each for another reason.
func invalid() []api.Track {
	return []api.Track{
		{}, {Role: api.RoWall}, {Role: api.RoWall, Closed: true}, {Role: 0, Cells: cells(0, 0)}, {Role: 8, Cells: cells(0, 0)}, {Role: -1, Cells: cells(0, 0)},
		open(0, 0, 0, 0), open(0, 0, 1, 1), open(0, 0, 2, 0), open(0, 0, 0, -2), open(edge, 0), open(0, -edge-1), open(0, edge), open(-edge-1, 0), open(0, 0, 1, 0, 1, 2),
		open(edge-1, 0, edge, 0), open(math.MinInt, 0), open(0, 0, math.MaxInt, 1), open(math.MaxInt, math.MinInt),
		closed(0, 0, 1, 0, 2, 0), closed(0, 0, 1, 0, 1, 1), closed(0, 0, 1, 0, 0, 0), zigzag(api.MaxPath + 1),
	}
}

// P23.1, P23.3.
func TestValidAndSteps(t *testing.T) {
	for _, q := range []struct {
		t     api.Track
		steps int
	}{
		{open(0, 0), 0}, {closed(0, 0), 0}, {open(0, 0, 1, 0), 1}, {closed(0, 0, 1, 0), 2}, {open(0, 0, 1, 0, 1, 1, 0, 1), 3}, {closed(0, 0, 1, 0, 1, 1, 0, 1), 4},
		{open(0, 0, 1, 0, 0, 0), 2}, {closed(0, 0, 1, 0, 0, 0, 0, 1), 4}, {open(-edge, -edge, -edge, -edge+1), 1}, {open(edge-1, edge-1, edge-1, edge-2), 1},
		{api.Track{Role: api.RoBrim, Cells: cells(5, 5)}, 0}, {zigzag(api.MaxPath), api.MaxPath - 1},
	} {
		if !Valid(q.t) || Steps(q.t) != q.steps {
			t.Errorf("%v: valid %v, %d steps; want %d", q.t, Valid(q.t), Steps(q.t), q.steps)
		}
	}
	for i, bad := range invalid() {
		if Valid(bad) || Steps(bad) != 0 {
			t.Errorf("invalid track %d: valid %v, %d steps", i, Valid(bad), Steps(bad))
		}
	}
}

// P23.2, P23.4, P23.5, P23.6: tracks that are not valid.
func TestInvalidTracks(t *testing.T) {
	for i, bad := range invalid() {
		if r := Reverse(bad); !same(r, api.Track{}) {
			t.Errorf("Reverse of invalid track %d = %v", i, r)
		}
		if r := Turned(bad, 1); !same(r, api.Track{}) {
			t.Errorf("Turned of invalid track %d = %v", i, r)
		}
		if l := Corners(bad); len(l) != 0 {
			t.Errorf("Corners of invalid track %d = %v", i, l)
		}
		l := []api.Track{bad, open(0, 0, 1, 0), bad}
		if r := Cover(l); region.Count(r) != 2 {
			t.Errorf("Cover with invalid track %d = %v", i, r)
		}
		if once := Once(l); len(once) != 1 || !same(once[0], l[1]) {
			t.Errorf("Once with invalid track %d = %v", i, once)
		}
	}
}

// P23.2.
func TestCover(t *testing.T) {
	if r := Cover(nil); len(r.Rows) != 0 {
		t.Errorf("Cover of nothing = %v", r)
	}
	want, _ := region.Of(cells(0, 0, 1, 0, 2, 0, 1, 1, 1, -1))
	if got := Cover([]api.Track{open(0, 0, 1, 0, 2, 0), open(1, 1, 1, 0, 1, -1)}); !region.Same(got, want) {
		t.Errorf("Cover = %v", got)
	}
}

// P23.4.
func TestReverseAndTurned(t *testing.T) {
	around := closed(0, 0, 1, 0, 1, 1, 0, 1)
	line := open(0, 0, 1, 0, 2, 0)
	for _, q := range []struct{ got, want api.Track }{
		{Reverse(line), open(2, 0, 1, 0, 0, 0)},
		{Reverse(around), closed(0, 1, 1, 1, 1, 0, 0, 0)},
		{Turned(line, 1), line},
		{Turned(around, 0), around}, {Turned(around, 1), closed(1, 0, 1, 1, 0, 1, 0, 0)}, {Turned(around, 3), closed(0, 1, 0, 0, 1, 0, 1, 1)},
		{Turned(around, 4), around}, {Turned(around, -1), closed(0, 1, 0, 0, 1, 0, 1, 1)}, {Turned(around, -4), around}, {Turned(around, -7), closed(1, 0, 1, 1, 0, 1, 0, 0)},
		{Turned(around, math.MaxInt), closed(0, 1, 0, 0, 1, 0, 1, 1)}, {Turned(around, math.MinInt), around}, {Turned(closed(5, 5), math.MinInt), closed(5, 5)},
	} {
		if !same(q.got, q.want) {
			t.Errorf("%v; want %v", q.got, q.want)
		}
	}
	for _, got := range []api.Track{Reverse(line), Turned(line, 5), Turned(around, 0), Once([]api.Track{line})[0]} {
		got.Cells[0] = api.Cell{X: 99}
	}
	if !same(around, closed(0, 0, 1, 0, 1, 1, 0, 1)) || !same(line, open(0, 0, 1, 0, 2, 0)) {
		t.Errorf("%v or %v has been changed", around, line)
	}
}

// P23.5.
func TestCorners(t *testing.T) {
	for _, q := range []struct {
		t    api.Track
		want []api.Cell
	}{
		{open(0, 0, 1, 0, 1, 1, 0, 1), cells(0, 0, 1, 0, 1, 1, 0, 1)},
		{open(0, 0, 1, 0, 2, 0), cells(0, 0, 2, 0)},
		{open(0, 0, 0, 1, 0, 2, 1, 2), cells(0, 0, 0, 2, 1, 2)},
		{open(4, 4), cells(4, 4)},
		{closed(4, 4), cells(4, 4)},
		{closed(0, 0, 1, 0), cells(0, 0, 1, 0)},
		{open(0, 0, 1, 0, 0, 0), cells(0, 0, 1, 0, 0, 0)},
		{closed(0, 0, 1, 0, 2, 0, 2, 1, 1, 1, 0, 1), cells(0, 0, 2, 0, 2, 1, 0, 1)},
		{closed(1, 0, 2, 0, 2, 1, 1, 1, 0, 1, 0, 0), cells(1, 0, 2, 0, 2, 1, 0, 1, 0, 0)},
	} {
		if got := Corners(q.t); !slices.Equal(got, q.want) {
			t.Errorf("Corners(%v) = %v; want %v", q.t, got, q.want)
		}
	}
}

// P23.6.
func TestOnce(t *testing.T) {
	around := closed(0, 0, 1, 0, 1, 1, 0, 1)
	for _, q := range []struct{ l, want []api.Track }{
		{nil, nil},
		{[]api.Track{open(0, 0, 1, 0, 2, 0), open(1, 1, 1, 0, 1, -1)}, []api.Track{open(0, 0, 1, 0, 2, 0), open(1, 1), open(1, -1)}},
		{[]api.Track{around}, []api.Track{around}},
		{[]api.Track{around, around}, []api.Track{around}},
		{[]api.Track{open(1, 1), around}, []api.Track{open(1, 1), open(0, 0, 1, 0), open(0, 1)}},
		{[]api.Track{open(0, 0), around}, []api.Track{open(0, 0), open(1, 0, 1, 1, 0, 1)}},
		{[]api.Track{open(0, 1), around}, []api.Track{open(0, 1), open(0, 0, 1, 0, 1, 1)}},
		{[]api.Track{open(0, 0, 1, 0, 0, 0, 0, 1)}, []api.Track{open(0, 0, 1, 0), open(0, 1)}},
		{[]api.Track{closed(0, 0, 1, 0, 0, 0, 0, 1)}, []api.Track{open(0, 0, 1, 0), open(0, 1)}},
		{[]api.Track{closed(3, 3), closed(3, 3)}, []api.Track{closed(3, 3)}},
		// The role of each track stays; a track that repeats only its own last cells is cut, too.
		{
			[]api.Track{{Role: api.RoBrim, Closed: true, Cells: cells(0, 0, 1, 0, 2, 0, 1, 0)}, {Role: api.RoThin, Cells: cells(2, 1, 2, 0, 3, 0)}},
			[]api.Track{{Role: api.RoBrim, Cells: cells(0, 0, 1, 0, 2, 0)}, {Role: api.RoThin, Cells: cells(2, 1)}, {Role: api.RoThin, Cells: cells(3, 0)}},
		},
	} {
		if got := Once(q.l); !slices.EqualFunc(got, q.want, same) {
			t.Errorf("Once(%v) = %v; want %v", q.l, got, q.want)
		}
	}
}

// randomTracks returns walks of any kind, some of which are not valid.
func randomTracks(random *rand.Rand) []api.Track {
	var l []api.Track
	for range random.Intn(6) {
		c := api.Cell{X: random.Intn(4), Y: random.Intn(4)}
		t := api.Track{Role: 1 + random.Intn(8), Closed: random.Intn(3) == 0, Cells: []api.Cell{c}}
		for range random.Intn(9) {
			d := cells(1, 0, -1, 0, 0, 1, 0, -1)[random.Intn(4)]
			c = api.Cell{X: c.X + d.X, Y: c.Y + d.Y}
			t.Cells = append(t.Cells, c)
		}
		if n := len(t.Cells); t.Closed && random.Intn(2) == 0 { // the way back closes it
			for i := n - 2; i > 0; i-- {
				t.Cells = append(t.Cells, t.Cells[i])
			}
		}
		l = append(l, t)
	}
	return l
}

// P23.1 to P23.6, and the consequences.
func TestAnyTracks(t *testing.T) {
	random := rand.New(rand.NewSource(23))
	closedOnes, cut := 0, 0
	for range 2000 {
		l := randomTracks(random)
		once := Once(l)
		covered := map[api.Cell]int{}
		for _, o := range once {
			if !Valid(o) {
				t.Errorf("Once(%v) has the track %v", l, o)
			}
			for _, c := range o.Cells {
				covered[c]++
				if covered[c] > 1 {
					t.Errorf("Once(%v) covers %v twice", l, c)
				}
			}
		}
		if !region.Same(Cover(once), Cover(l)) || region.Count(Cover(l)) != len(covered) {
			t.Errorf("Once(%v) = %v covers other cells", l, once)
		}
		if again := Once(once); !slices.EqualFunc(again, once, same) {
			t.Errorf("Once(%v) = %v", once, again)
		}
		if len(once) > len(l) {
			cut++
		}
		for _, o := range l {
			i := random.Intn(30) - 15
			reverse, turned := Reverse(o), Turned(o, i)
			if !Valid(o) {
				continue
			}
			if o.Closed && len(o.Cells) > 2 {
				closedOnes++
			}
			if !same(Reverse(reverse), o) || !same(Turned(turned, -i), o) || !Valid(reverse) || !Valid(turned) || Steps(reverse) != Steps(o) || Steps(turned) != Steps(o) {
				t.Errorf("%v reversed is %v, and turned by %d it is %v", o, reverse, i, turned)
			}
			if !region.Same(Cover([]api.Track{reverse, turned}), Cover([]api.Track{o})) {
				t.Errorf("%v reversed or turned covers other cells", o)
			}
		}
	}
	if closedOnes < 200 || cut < 200 {
		t.Errorf("only %d tracks are closed, and %d lists became longer", closedOnes, cut)
	}
}
