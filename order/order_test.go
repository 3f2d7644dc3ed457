package order

import (
	"math"
	"math/rand"
	"slices"
	"testing"

	"additive/api"
	"additive/track"
)

const edge = api.MaxCell

// cells returns cells whose coordinates are given in pairs.
func cells(coordinates ...int) []api.Cell {
	l := []api.Cell{}
	for i := 0; i < len(coordinates); i += 2 {
		l = append(l, api.Cell{X: coordinates[i], Y: coordinates[i+1]})
	}
	return l
}

func open(coordinates ...int) api.Track {
	return api.Track{Role: api.RoSkin, Cells: cells(coordinates...)}
}

// square returns a closed track of the four cells from (x, y) on.
func square(x, y int) api.Track {
	return api.Track{Role: api.RoWall, Closed: true, Cells: cells(x, y, x+1, y, x+1, y+1, x, y+1)}
}

func same(a, b api.Track) bool {
	return a.Role == b.Role && a.Closed == b.Closed && slices.Equal(a.Cells, b.Cells)
}

func equal(a, b []api.Track) bool {
	return slices.EqualFunc(a, b, same)
}

func clone(l []api.Track) []api.Track {
	var c []api.Track
	for _, t := range l {
		c = append(c, api.Track{Role: t.Role, Closed: t.Closed, Cells: slices.Clone(t.Cells)})
	}
	return c
}

// outside are cells that are not on the grid.
func outside() []api.Cell {
	return cells(edge, 0, 0, edge, -edge-1, 0, 0, -edge-1, math.MaxInt, math.MinInt)
}

// randomTracks returns tracks close to each other, few of which are not valid.
func randomTracks(random *rand.Rand, most, bad int) []api.Track {
	var l []api.Track
	for range random.Intn(most + 1) {
		x, y := random.Intn(12)-6, random.Intn(12)-6
		if random.Intn(3) == 0 {
			l = append(l, track.Turned(square(x, y), random.Intn(4)))
			continue
		}
		t := open(x, y)
		for range random.Intn(4) {
			if random.Intn(2) == 0 {
				x++
			} else {
				y--
			}
			t.Cells = append(t.Cells, api.Cell{X: x, Y: y})
		}
		if random.Intn(100) < bad {
			t.Role = 0
		}
		l = append(l, t)
	}
	return l
}

func between(a, b api.Cell) int {
	d := func(p, q int) int { return max(p-q, q-p) }
	return d(a.X, b.X) + d(a.Y, b.Y)
}

// cost adds up the ways to the valid tracks.
func cost(from api.Cell, l []api.Track) int {
	n := 0
	for _, t := range l {
		if track.Valid(t) {
			n += between(from, t.Cells[0])
			from = t.Cells[len(t.Cells)-1]
		}
	}
	return n
}

// variants returns the variants of a track.
func variants(t api.Track) []api.Track {
	if !t.Closed {
		return []api.Track{t, track.Reverse(t)}
	}
	var l []api.Track
	for i := range t.Cells {
		l = append(l, track.Turned(t, i))
	}
	return l
}

// greedy looks for the nearest variant, by the definition.
func greedy(from api.Cell, l []api.Track) []api.Track {
	left := slices.DeleteFunc(clone(l), func(t api.Track) bool { return !track.Valid(t) })
	var chosen []api.Track
	for len(left) > 0 {
		var next api.Track
		at, least := 0, math.MaxInt
		for i, t := range left {
			for _, v := range variants(t) {
				if way := between(from, v.Cells[0]); way < least {
					next, at, least = v, i, way
				}
			}
		}
		chosen, left = append(chosen, next), slices.Delete(left, at, at+1)
		from = next.Cells[len(next.Cells)-1]
	}
	return chosen
}

// reverse returns a list in which the part from i to j is reversed.
func reverse(l []api.Track, i, j int) []api.Track {
	r := clone(l)
	for k := i; k <= j; k++ {
		t := l[i+j-k]
		if !t.Closed {
			t = track.Reverse(t)
		}
		r[k] = t
	}
	return r
}

// improve tries all parts, by the definition.
func improve(from api.Cell, l []api.Track, rounds int) []api.Track {
	l = slices.DeleteFunc(clone(l), func(t api.Track) bool { return !track.Valid(t) })
step:
	for range min(rounds, 64) {
		for i := range l {
			for j := i; j < len(l); j++ {
				if r := reverse(l, i, j); cost(from, r) < cost(from, l) {
					l = r
					continue step
				}
			}
		}
		break
	}
	return l
}

// P33.1, P33.2, P33.3, P33.4: the examples.
func TestExamples(t *testing.T) {
	a, b := open(5, 0, 4, 0), open(1, 0, 2, 0)
	l := []api.Track{a, b}
	if got := Cost(api.Cell{}, l); got != 8 {
		t.Errorf("Cost = %d", got)
	}
	best := []api.Track{b, open(4, 0, 5, 0)}
	if got := Greedy(api.Cell{}, l); !equal(got, best) || Cost(api.Cell{}, got) != 3 {
		t.Errorf("Greedy = %v", got)
	}
	if got := Improve(api.Cell{}, l, 1); !equal(got, []api.Track{open(2, 0, 1, 0), open(4, 0, 5, 0)}) || Cost(api.Cell{}, got) != 5 {
		t.Errorf("Improve = %v", got)
	}
	if got, e := Best(api.Cell{}, l); !equal(got, best) || e != api.OK {
		t.Errorf("Best = %v, %d", got, e)
	}
	// Of equal distances that of the first track, and of its first variant, is taken.
	if got := Greedy(api.Cell{}, []api.Track{open(0, 3), open(2, 0, 3, 0), open(0, 1, 1, 1, 1, 0)}); !equal(got, []api.Track{open(0, 1, 1, 1, 1, 0), open(2, 0, 3, 0), open(0, 3)}) {
		t.Errorf("Greedy = %v", got)
	}
	if got := Greedy(api.Cell{X: 1, Y: 1}, []api.Track{square(1, 2), square(2, 1)}); !equal(got, []api.Track{square(1, 2), track.Turned(square(2, 1), 3)}) {
		t.Errorf("Greedy = %v", got)
	}
}

// P33.1 to P33.4: positions and tracks that are not valid.
func TestInvalid(t *testing.T) {
	l := []api.Track{open(5, 0, 4, 0), square(0, 0)}
	for _, from := range outside() {
		if Cost(from, l) != 0 || len(Greedy(from, l)) != 0 || len(Improve(from, l, 3)) != 0 {
			t.Errorf("from %v: Cost %d, Greedy %v, Improve %v", from, Cost(from, l), Greedy(from, l), Improve(from, l, 3))
		}
		if got, e := Best(from, l); len(got) != 0 || e != api.ErrArg {
			t.Errorf("from %v: Best %v, %d", from, got, e)
		}
	}
	if from := (api.Cell{X: -edge, Y: -edge}); Cost(from, l) != 2*edge+5+4 || len(Greedy(from, l)) != 2 || len(Improve(from, l, 1)) != 2 {
		t.Errorf("from %v: Cost %d, Greedy %v", from, Cost(from, l), Greedy(from, l))
	}
	bad := []api.Track{{}, l[0], open(0, 0, 2, 0), l[1], {Role: api.RoWall}}
	from := api.Cell{X: 7}
	if Cost(from, bad) != 2+4 || !equal(Greedy(from, bad), Greedy(from, l)) || !equal(Improve(from, bad, 9), Improve(from, l, 9)) {
		t.Errorf("Cost %d, Greedy %v, Improve %v", Cost(from, bad), Greedy(from, bad), Improve(from, bad, 9))
	}
	if got, e := Best(from, bad); len(got) != 0 || e != api.ErrArg {
		t.Errorf("Best = %v, %d", got, e)
	}
	seven := []api.Track{l[0], l[0], l[0], l[0], l[0], l[0], l[0]}
	if got, e := Best(from, seven); len(got) != 0 || e != api.ErrLimit {
		t.Errorf("Best of seven tracks = %v, %d", got, e)
	}
	if got, e := Best(from, append(seven, api.Track{})); len(got) != 0 || e != api.ErrArg {
		t.Errorf("Best of eight tracks = %v, %d", got, e)
	}
	if got, e := Best(from, nil); len(got) != 0 || e != api.OK || Cost(from, nil) != 0 || len(Greedy(from, nil)) != 0 || len(Improve(from, nil, 5)) != 0 {
		t.Errorf("Best of nothing = %v, %d", got, e)
	}
	if got, e := Best(from, seven[:6]); len(got) != 6 || e != api.OK {
		t.Errorf("Best of six tracks = %v, %d", got, e)
	}
}

// P33.1, P33.2, P33.3, for any tracks.
func TestAnyTracks(t *testing.T) {
	random := rand.New(rand.NewSource(33))
	improved := 0
	for range 400 {
		l := randomTracks(random, 9, 10)
		given := clone(l)
		from := api.Cell{X: random.Intn(16) - 8, Y: random.Intn(16) - 8}
		if got := Cost(from, l); got != cost(from, l) {
			t.Errorf("Cost(%v, %v) = %d; want %d", from, l, got, cost(from, l))
		}
		if got := Greedy(from, l); !equal(got, greedy(from, l)) {
			t.Errorf("Greedy(%v, %v) = %v; want %v", from, l, got, greedy(from, l))
		}
		rounds := random.Intn(8) - 1
		got := Improve(from, l, rounds)
		if !equal(got, improve(from, l, rounds)) {
			t.Errorf("Improve(%v, %v, %d) = %v; want %v", from, l, rounds, got, improve(from, l, rounds))
		}
		if Cost(from, got) < Cost(from, l) {
			improved++
		}
		if !equal(l, given) {
			t.Fatalf("%v has been changed", given)
		}
		for _, list := range [][]api.Track{got, Greedy(from, l)} {
			for i := range list {
				list[i].Cells[0] = api.Cell{X: 99}
			}
		}
		if !equal(l, given) {
			t.Fatalf("a result shares memory with %v", given)
		}
	}
	if improved < 200 {
		t.Errorf("only %d lists were improved", improved)
	}
}

// P33.3: rounds beyond the limits.
func TestRounds(t *testing.T) {
	random := rand.New(rand.NewSource(34))
	var l []api.Track
	for range 200 {
		x, y := random.Intn(200)-100, random.Intn(200)-100
		l = append(l, open(x, y, x+1, y))
	}
	from := api.Cell{}
	one := l
	for range 64 {
		one = Improve(from, one, 1)
	}
	if got := Improve(from, l, math.MaxInt); !equal(got, one) || !equal(Improve(from, l, 64), one) || equal(Improve(from, l, 63), one) {
		t.Errorf("the rounds are not limited to 64: the costs are %d and %d", Cost(from, got), Cost(from, one))
	}
	for _, rounds := range []int{0, -1, math.MinInt} {
		if got := Improve(from, l, rounds); !equal(got, l) {
			t.Errorf("Improve with %d rounds = %v", rounds, got)
		}
	}
}

// best tries all arrangements in their order.
func best(from api.Cell, l []api.Track) ([]api.Track, int) {
	if len(l) == 0 {
		return nil, 0
	}
	var found []api.Track
	least := math.MaxInt
	for i, t := range l {
		rest := slices.Delete(slices.Clone(l), i, i+1)
		choice := []api.Track{t}
		if !t.Closed {
			choice = append(choice, track.Reverse(t))
		}
		for _, v := range choice {
			tail, n := best(v.Cells[len(v.Cells)-1], rest)
			if n += between(from, v.Cells[0]); n < least {
				found, least = append([]api.Track{v}, tail...), n
			}
		}
	}
	return found, least
}

// P33.4.
func TestBest(t *testing.T) {
	random := rand.New(rand.NewSource(35))
	for range 150 {
		l := randomTracks(random, 5, 0)
		given := clone(l)
		from := api.Cell{X: random.Intn(16) - 8, Y: random.Intn(16) - 8}
		got, e := Best(from, l)
		want, least := best(from, l)
		if !equal(got, want) || e != api.OK || Cost(from, got) != least || !equal(l, given) {
			t.Errorf("Best(%v, %v) = %v, %d; want %v", from, l, got, e, want)
		}
		if least > Cost(from, Improve(from, Greedy(from, l), 9)) && !slices.ContainsFunc(l, func(o api.Track) bool { return o.Closed }) {
			t.Errorf("Best(%v, %v) costs %d, and Greedy is better", from, l, least)
		}
		if len(got) > 0 {
			rest, _ := Best(got[0].Cells[len(got[0].Cells)-1], got[1:])
			if Cost(got[0].Cells[len(got[0].Cells)-1], rest) != least-between(from, got[0].Cells[0]) {
				t.Errorf("Best(%v, %v) does not go on best", from, l)
			}
		}
	}
}

// P33.2, P33.3: as many tracks as a layer may have.
func TestManyTracks(t *testing.T) {
	random := rand.New(rand.NewSource(36))
	var l []api.Track
	for i := range api.MaxTracks {
		x, y := random.Intn(2000), random.Intn(2000)
		if i%4 == 0 {
			l = append(l, square(x, y))
		} else {
			l = append(l, open(x, y, x+1, y))
		}
	}
	greedy := Greedy(api.Cell{}, l)
	improved := Improve(api.Cell{}, greedy, 8)
	if len(greedy) != len(l) || len(improved) != len(l) || Cost(api.Cell{}, greedy) >= Cost(api.Cell{}, l) || Cost(api.Cell{}, improved) > Cost(api.Cell{}, greedy) {
		t.Errorf("the costs are %d, %d and %d", Cost(api.Cell{}, l), Cost(api.Cell{}, greedy), Cost(api.Cell{}, improved))
	}
}
