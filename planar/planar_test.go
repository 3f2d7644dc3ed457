package planar

import (
	"math"
	"math/big"
	"math/rand"
	"slices"
	"testing"

	"additive/api"
)

const edge = 1 << 24

func pt(x, y int) api.Pt {
	return api.Pt{X: x, Y: y}
}

func seg(ax, ay, bx, by int) api.Seg {
	return api.Seg{A: pt(ax, ay), B: pt(bx, by)}
}

// outside are points that are not valid; some of them make careless arithmetic wrap around.
var outside = []api.Pt{
	{X: edge + 1}, {X: -edge - 1}, {Y: edge + 1}, {Y: -edge - 1}, {X: edge + 1, Y: edge + 1},
	{X: math.MaxInt}, {X: math.MinInt}, {Y: math.MaxInt}, {Y: math.MinInt}, {X: math.MinInt, Y: math.MinInt}, {X: 1 << 32, Y: 1 << 32},
}

// corners are the valid points that are farthest out, and some near them.
var corners = []api.Pt{
	{X: edge, Y: edge}, {X: -edge, Y: edge}, {X: edge, Y: -edge}, {X: -edge, Y: -edge}, {X: edge - 1, Y: edge}, {X: -edge, Y: 1 - edge}, {X: edge}, {Y: -edge}, {},
}

// grid returns all points with coordinates from 0 to n - 1.
func grid(n int) []api.Pt {
	var l []api.Pt
	for x := range n {
		for y := range n {
			l = append(l, pt(x, y))
		}
	}
	return l
}

// P5.1.
func TestValid(t *testing.T) {
	for _, p := range corners {
		if !Valid(p) {
			t.Errorf("%v is not valid", p)
		}
	}
	for _, p := range outside {
		if Valid(p) {
			t.Errorf("%v is valid", p)
		}
	}
}

// P5.1.
func TestCrossAndTurn(t *testing.T) {
	for _, q := range []struct {
		a, b, c     api.Pt
		cross, turn int
	}{
		{pt(0, 0), pt(2, 0), pt(0, 3), 6, 1},
		{pt(0, 0), pt(0, 3), pt(2, 0), -6, -1},
		{pt(1, 2), pt(4, 3), pt(6, 7), 10, 1},
		{pt(1, 1), pt(2, 2), pt(5, 5), 0, 0},
		{pt(1, 1), pt(1, 1), pt(5, 7), 0, 0},
		{pt(0, 0), pt(3, 2), pt(4, 3), 1, 1},
		{pt(0, 0), pt(4, 3), pt(3, 2), -1, -1},
		{pt(-edge, -edge), pt(edge, -edge), pt(edge, edge), 1 << 50, 1},
		{pt(-edge, -edge), pt(edge, edge), pt(edge, -edge), -1 << 50, -1},
		{pt(-edge, -edge), pt(edge, edge), pt(edge-1, edge-1), 0, 0},
		{pt(-edge, -edge), pt(edge, edge), pt(edge-1, edge), 1 << 25, 1},
	} {
		if got := Cross(q.a, q.b, q.c); got != q.cross {
			t.Errorf("Cross(%v, %v, %v) = %d; want %d", q.a, q.b, q.c, got, q.cross)
		}
		if got := Turn(q.a, q.b, q.c); got != q.turn {
			t.Errorf("Turn(%v, %v, %v) = %d; want %d", q.a, q.b, q.c, got, q.turn)
		}
	}
	a, b := pt(1, 2), pt(4, 9)
	for _, bad := range outside {
		for _, l := range [][3]api.Pt{{bad, a, b}, {a, bad, b}, {a, b, bad}, {bad, bad, a}} {
			if Cross(l[0], l[1], l[2]) != 0 || Turn(l[0], l[1], l[2]) != 0 {
				t.Errorf("Cross or Turn of %v is not 0", l)
			}
		}
	}
}

// P5.1.
func TestDist2(t *testing.T) {
	for _, q := range []struct {
		a, b api.Pt
		want int
	}{
		{pt(0, 0), pt(3, 4), 25}, {pt(1, 2), pt(-2, 6), 25}, {pt(5, -7), pt(5, -7), 0}, {pt(1, 0), pt(0, 0), 1}, {pt(0, 0), pt(0, -2), 4},
		{pt(-edge, -edge), pt(edge, edge), 1 << 51}, {pt(-edge, 0), pt(edge, 1), 1<<50 + 1},
	} {
		if Dist2(q.a, q.b) != q.want || Dist2(q.b, q.a) != q.want {
			t.Errorf("Dist2(%v, %v) = %d; want %d", q.a, q.b, Dist2(q.a, q.b), q.want)
		}
	}
	for _, bad := range outside {
		if Dist2(bad, pt(1, 1)) != 0 || Dist2(pt(1, 1), bad) != 0 {
			t.Errorf("Dist2 with %v is not 0", bad)
		}
	}
}

// P5.2.
func TestOn(t *testing.T) {
	for _, q := range []struct {
		p    api.Pt
		s    api.Seg
		want bool
	}{
		{pt(1, 1), seg(0, 0, 2, 2), true}, {pt(1, 1), seg(2, 2, 0, 0), true},
		{pt(0, 0), seg(0, 0, 2, 2), true}, {pt(2, 2), seg(0, 0, 2, 2), true},
		{pt(3, 3), seg(0, 0, 2, 2), false}, {pt(-1, -1), seg(0, 0, 2, 2), false}, {pt(1, 2), seg(0, 0, 2, 2), false},
		{pt(1, 0), seg(0, 0, 2, 1), false}, {pt(1, 1), seg(0, 0, 2, 1), false}, {pt(2, 1), seg(0, 0, 4, 2), true},
		{pt(0, 5), seg(0, 0, 0, 9), true}, {pt(0, 10), seg(0, 0, 0, 9), false}, {pt(0, -1), seg(0, 9, 0, 0), false},
		{pt(5, 0), seg(0, 0, 9, 0), true}, {pt(10, 0), seg(0, 0, 9, 0), false}, {pt(-1, 0), seg(9, 0, 0, 0), false},
		{pt(4, 4), seg(4, 4, 4, 4), true}, {pt(4, 5), seg(4, 4, 4, 4), false}, {pt(5, 4), seg(4, 4, 4, 4), false}, {pt(3, 3), seg(4, 4, 4, 4), false},
		{pt(1, 2), seg(0, 3, 3, 0), true}, {pt(-1, 4), seg(0, 3, 3, 0), false},
		{pt(0, 0), seg(-edge, -edge, edge, edge), true}, {pt(0, 1), seg(-edge, -edge, edge, edge), false}, {pt(edge, edge), seg(-edge, -edge, edge, edge), true},
	} {
		if got := On(q.p, q.s); got != q.want {
			t.Errorf("On(%v, %v) = %v", q.p, q.s, got)
		}
	}
	for _, bad := range outside {
		for _, s := range []api.Seg{{A: bad}, {B: bad}, {A: bad, B: bad}, {A: bad, B: pt(-bad.X, -bad.Y)}} {
			if On(bad, s) || On(pt(0, 0), s) {
				t.Errorf("a point is on %v", s)
			}
		}
		if On(bad, seg(0, 0, 2, 2)) || On(bad, seg(0, 0, 0, 0)) {
			t.Errorf("%v is on a segment", bad)
		}
	}
}

// part is a piece of a segment: its end A is at 0, its end B at 1.
type part struct {
	from, to *big.Rat
}

// meet counts common points in another way: it keeps the part of s that t covers.
func meet(s, t api.Seg) int {
	if s.A == s.B {
		if within(s.A, t) {
			return 1
		}
		return 0
	}
	p := part{from: new(big.Rat), to: big.NewRat(1, 1)}
	dx, dy := s.B.X-s.A.X, s.B.Y-s.A.Y
	nx, ny := t.A.Y-t.B.Y, t.B.X-t.A.X
	at := nx*(t.A.X-s.A.X) + ny*(t.A.Y-s.A.Y)
	p.clip(nx*dx+ny*dy, at, at) // the line through t
	p.clip(dx, min(t.A.X, t.B.X)-s.A.X, max(t.A.X, t.B.X)-s.A.X)
	p.clip(dy, min(t.A.Y, t.B.Y)-s.A.Y, max(t.A.Y, t.B.Y)-s.A.Y)
	return 1 + p.to.Cmp(p.from)
}

// clip keeps the parameters k with lo <= k * d <= hi; an empty part has to below from.
func (p *part) clip(d, lo, hi int) {
	if d == 0 {
		if lo > 0 || hi < 0 {
			p.from, p.to = big.NewRat(1, 1), new(big.Rat)
		}
		return
	}
	from, to := big.NewRat(int64(lo), int64(d)), big.NewRat(int64(hi), int64(d))
	if d < 0 {
		from, to = to, from
	}
	if p.from.Cmp(from) < 0 {
		p.from = from
	}
	if p.to.Cmp(to) > 0 {
		p.to = to
	}
}

// within reports whether p is on t, by distances along the axes.
func within(p api.Pt, t api.Seg) bool {
	dx, dy := t.B.X-t.A.X, t.B.Y-t.A.Y
	ex, ey := p.X-t.A.X, p.Y-t.A.Y
	along, length := dx*ex+dy*ey, dx*dx+dy*dy
	if length == 0 {
		return p == t.A
	}
	return dx*ey == dy*ex && along >= 0 && along <= length
}

// P5.2.
func TestMeet(t *testing.T) {
	for _, q := range []struct {
		s, t api.Seg
		want int
	}{
		{seg(0, 0, 2, 2), seg(0, 2, 2, 0), 1},
		{seg(0, 0, 3, 0), seg(1, 0, 5, 0), 2},
		{seg(0, 0, 1, 0), seg(2, 0, 3, 0), 0},
		{seg(0, 0, 1, 0), seg(1, 0, 3, 0), 1},
		{seg(0, 0, 5, 5), seg(1, 1, 2, 2), 2},
		{seg(0, 0, 5, 5), seg(0, 0, 5, 5), 2},
		{seg(0, 0, 5, 5), seg(0, 0, 2, 2), 2},
		{seg(0, 0, 3, 2), seg(1, 0, 1, 5), 1}, // the common point is not an integer
		{seg(0, 0, 4, 0), seg(2, 0, 2, 5), 1},
		{seg(0, 0, 4, 0), seg(2, 1, 2, 5), 0},
		{seg(0, 0, 4, 0), seg(4, 0, 6, 7), 1},
		{seg(0, 0, 4, 0), seg(0, 1, 4, 1), 0},
		{seg(0, 0, 4, 0), seg(5, -1, 5, 1), 0},
		{seg(1, 1, 1, 1), seg(0, 0, 2, 2), 1},
		{seg(1, 2, 1, 2), seg(0, 0, 2, 2), 0},
		{seg(3, 3, 3, 3), seg(0, 0, 2, 2), 0},
		{seg(3, 3, 3, 3), seg(3, 3, 3, 3), 1},
		{seg(3, 3, 3, 3), seg(3, 4, 3, 4), 0},
		{seg(-edge, -edge, edge, edge), seg(-edge, edge, edge, -edge), 1},
		{seg(-edge, -edge, edge, edge-1), seg(-edge, 1-edge, edge, edge), 0},
		{seg(-edge, -edge, edge, edge), seg(0, 0, edge-1, edge-1), 2},
	} {
		checkMeet(t, q.s, q.t, q.want)
	}
}

// checkMeet checks the number of common points, and that the order of segments and ends does not matter (P5.4).
func checkMeet(t *testing.T, s, u api.Seg, want int) {
	t.Helper()
	turned, back := api.Seg{A: s.B, B: s.A}, api.Seg{A: u.B, B: u.A}
	for _, q := range [][2]api.Seg{{s, u}, {turned, u}, {s, back}, {turned, back}, {u, s}, {back, turned}} {
		if got := Meet(q[0], q[1]); got != want {
			t.Errorf("Meet(%v, %v) = %d; want %d", q[0], q[1], got, want)
		}
	}
}

// P5.2, P5.4: all segments of a small grid.
func TestMeetOnGrid(t *testing.T) {
	points := grid(4)
	for _, a := range points {
		for _, b := range points {
			for _, c := range points {
				for _, d := range points {
					s, u := api.Seg{A: a, B: b}, api.Seg{A: c, B: d}
					if compare(a, b) <= 0 && compare(c, d) <= 0 && compare(a, c) <= 0 {
						checkMeet(t, s, u, meet(s, u))
					}
				}
			}
		}
	}
}

// P5.2: segments whose ends are not valid.
func TestMeetOfInvalidSegments(t *testing.T) {
	cross := seg(-2, -2, 2, 2)
	for _, bad := range outside {
		for _, s := range []api.Seg{{A: bad}, {B: bad}, {A: bad, B: bad}, {A: bad, B: pt(-bad.X, -bad.Y)}} {
			if Meet(s, cross) != 0 || Meet(cross, s) != 0 || Meet(s, s) != 0 {
				t.Errorf("Meet with %v is not 0", s)
			}
		}
	}
}

// P5.5.
func TestSeparation(t *testing.T) {
	random := rand.New(rand.NewSource(5))
	for range 20000 {
		a, b, c, d := randomPt(random), randomPt(random), randomPt(random), randomPt(random)
		s, u := api.Seg{A: a, B: b}, api.Seg{A: c, B: d}
		touch := On(a, u) || On(b, u) || On(c, s) || On(d, s)
		cross := Turn(a, b, c)*Turn(a, b, d) < 0 && Turn(c, d, a)*Turn(c, d, b) < 0
		if got := Meet(s, u); (got > 0) != (touch || cross) || got != meet(s, u) {
			t.Errorf("Meet(%v, %v) = %d; want %d", s, u, got, meet(s, u))
		}
	}
}

// randomPt returns a valid point, often a near one, and never so far out that a product above leaves the range.
func randomPt(random *rand.Rand) api.Pt {
	most := [3]int{4, 40, 1 << 20}[random.Intn(3)]
	return pt(random.Intn(2*most+1)-most, random.Intn(2*most+1)-most)
}

// P5.4.
func TestSymmetry(t *testing.T) {
	points := append(grid(4), corners...)
	for _, a := range points {
		for _, b := range points {
			for _, c := range points {
				n := Cross(a, b, c)
				if Cross(b, c, a) != n || Cross(c, a, b) != n || Cross(b, a, c) != -n || Cross(a, c, b) != -n || Cross(c, b, a) != -n {
					t.Errorf("Cross(%v, %v, %v) is not symmetric", a, b, c)
				}
			}
		}
	}
}

// P5.3.
func TestArea2(t *testing.T) {
	for _, q := range []struct {
		l    []api.Pt
		want int
	}{
		{nil, 0}, {[]api.Pt{}, 0}, {[]api.Pt{pt(3, 4)}, 0}, {[]api.Pt{pt(3, 4), pt(7, 1)}, 0},
		{[]api.Pt{pt(0, 0), pt(2, 0), pt(2, 2), pt(0, 2)}, 8},
		{[]api.Pt{pt(0, 0), pt(0, 2), pt(2, 2), pt(2, 0)}, -8},
		{[]api.Pt{pt(5, 7), pt(8, 7), pt(5, 9)}, 6},
		{[]api.Pt{pt(0, 0), pt(2, 2), pt(2, 0), pt(0, 2)}, 0},
		{[]api.Pt{pt(0, 0), pt(2, 0), pt(2, 2), pt(0, 2), pt(0, 0), pt(2, 0), pt(2, 2), pt(0, 2)}, 16},
		{[]api.Pt{pt(-edge, -edge), pt(edge, -edge), pt(edge, edge), pt(-edge, edge)}, 1 << 51},
	} {
		if got := Area2(q.l); got != q.want {
			t.Errorf("Area2(%v) = %d; want %d", q.l, got, q.want)
		}
	}
	for _, bad := range outside {
		for i := range 4 {
			l := []api.Pt{pt(0, 0), pt(2, 0), pt(2, 2), pt(0, 2)}
			l[i] = bad
			if got := Area2(l); got != 0 {
				t.Errorf("Area2(%v) = %d", l, got)
			}
		}
	}
}

// P5.3: the limit; and the greatest area that a polygon can have, by going round as often as possible.
func TestArea2AtTheLimit(t *testing.T) {
	square := []api.Pt{pt(-edge, -edge), pt(edge, -edge), pt(edge, edge), pt(-edge, edge)}
	l := slices.Repeat(square, 2048)
	if got := Area2(l); got != 1<<62 {
		t.Errorf("Area2 of 8192 vertices = %d", got)
	}
	slices.Reverse(l)
	if got := Area2(l); got != -1<<62 {
		t.Errorf("Area2 of 8192 vertices, clockwise = %d", got)
	}
	if got := Area2(append(l, pt(0, 0))); got != 0 {
		t.Errorf("Area2 of 8193 vertices = %d", got)
	}
}

// P5.6.
func TestFans(t *testing.T) {
	random := rand.New(rand.NewSource(6))
	for range 500 {
		l := make([]api.Pt, 1+random.Intn(12))
		for i := range l {
			l[i] = randomPt(random)
		}
		want := 0
		for i := 1; i+1 < len(l); i++ {
			want += Cross(l[0], l[i], l[i+1])
		}
		if got := Area2(l); got != want {
			t.Errorf("Area2(%v) = %d; want %d", l, got, want)
		}
	}
}

// P5.7.
func TestHull(t *testing.T) {
	for _, q := range []struct{ l, want []api.Pt }{
		{nil, nil},
		{[]api.Pt{pt(3, 4)}, []api.Pt{pt(3, 4)}},
		{[]api.Pt{pt(3, 4), pt(3, 4), pt(3, 4)}, []api.Pt{pt(3, 4)}},
		{[]api.Pt{pt(3, 4), pt(1, 9)}, []api.Pt{pt(1, 9), pt(3, 4)}},
		{[]api.Pt{pt(2, 2), pt(0, 0), pt(5, 5), pt(1, 1), pt(2, 2)}, []api.Pt{pt(0, 0), pt(5, 5)}},
		{[]api.Pt{pt(0, 3), pt(0, 1), pt(0, 2)}, []api.Pt{pt(0, 1), pt(0, 3)}},
		{[]api.Pt{pt(3, 0), pt(1, 0), pt(2, 0)}, []api.Pt{pt(1, 0), pt(3, 0)}},
		{[]api.Pt{pt(0, 0), pt(2, 0), pt(1, 0), pt(2, 2), pt(1, 1), pt(0, 2)}, []api.Pt{pt(0, 0), pt(2, 0), pt(2, 2), pt(0, 2)}},
		{[]api.Pt{pt(0, 0), pt(0, 1), pt(1, 0)}, []api.Pt{pt(0, 0), pt(1, 0), pt(0, 1)}},
		{corners, []api.Pt{pt(-edge, -edge), pt(edge, -edge), pt(edge, edge), pt(-edge, edge)}},
	} {
		if got := Hull(q.l); !slices.Equal(got, q.want) {
			t.Errorf("Hull(%v) = %v; want %v", q.l, got, q.want)
		}
	}
	for _, bad := range outside {
		for _, l := range [][]api.Pt{{bad}, {bad, pt(1, 1)}, {pt(0, 0), pt(2, 0), bad}} {
			if got := Hull(l); len(got) != 0 {
				t.Errorf("Hull(%v) = %v", l, got)
			}
		}
	}
}

// hull finds the vertices one by one: all other points are on the left of the way to the next one, or nearer on it.
func hull(l []api.Pt) []api.Pt {
	first := slices.MinFunc(l, compare)
	found := []api.Pt{first}
	for {
		at, next := found[len(found)-1], first
		for _, p := range l {
			turn := Turn(at, next, p)
			if next == at || turn < 0 || turn == 0 && Dist2(at, p) > Dist2(at, next) {
				next = p
			}
		}
		if next == first {
			return found
		}
		found = append(found, next)
	}
}

// P5.7, P5.8.
func TestHulls(t *testing.T) {
	random := rand.New(rand.NewSource(7))
	for range 3000 {
		l := make([]api.Pt, 1+random.Intn(15))
		most := 1 + random.Intn(6)
		for i := range l {
			l[i] = pt(random.Intn(most), random.Intn(most))
		}
		given := slices.Clone(l)
		got := Hull(l)
		if !slices.Equal(l, given) {
			t.Fatalf("Hull has changed its argument %v", given)
		}
		if want := hull(l); !slices.Equal(got, want) {
			t.Errorf("Hull(%v) = %v; want %v", l, got, want)
		}
		if again := Hull(got); !slices.Equal(again, got) {
			t.Errorf("Hull(%v) = %v", got, again)
		}
		for i, a := range got {
			for _, p := range l {
				if Turn(a, got[(i+1)%len(got)], p) < 0 {
					t.Errorf("%v is outside of the hull %v", p, got)
				}
			}
		}
		l = append(l, l[random.Intn(len(l))], l[0])
		random.Shuffle(len(l), func(i, j int) { l[i], l[j] = l[j], l[i] })
		if shuffled := Hull(l); !slices.Equal(shuffled, got) {
			t.Errorf("Hull(%v) = %v; want %v", l, shuffled, got)
		}
	}
}

// P5.7: the limit counts points as often as they occur; results are new memory.
func TestHullLimit(t *testing.T) {
	l := slices.Repeat([]api.Pt{pt(5, 5), pt(2, 3)}, 4096)
	want := []api.Pt{pt(2, 3), pt(5, 5)}
	if got := Hull(l); !slices.Equal(got, want) {
		t.Errorf("Hull of 8192 points = %v", got)
	}
	if got := Hull(append(l, pt(5, 5))); len(got) != 0 {
		t.Errorf("Hull of 8193 points = %v", got)
	}
	single := []api.Pt{pt(1, 2)}
	Hull(single)[0] = pt(9, 9)
	if single[0] != pt(1, 2) {
		t.Error("the hull shares memory with its points")
	}
}
