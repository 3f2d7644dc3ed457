package region

import (
	"math"
	"math/rand"
	"slices"
	"strings"
	"testing"

	"additive/api"
)

const edge = api.MaxCell

// row returns a row whose runs are given by their bounds in pairs.
func row(y int, bounds ...int) api.Row {
	r := api.Row{Y: y}
	for i := 0; i < len(bounds); i += 2 {
		r.Runs = append(r.Runs, api.Run{From: bounds[i], To: bounds[i+1]})
	}
	return r
}

func rows(l ...api.Row) api.Region { return api.Region{Rows: l} }

// cells returns cells whose coordinates are given in pairs.
func cells(coordinates ...int) []api.Cell {
	l := []api.Cell{}
	for i := 0; i < len(coordinates); i += 2 {
		l = append(l, api.Cell{X: coordinates[i], Y: coordinates[i+1]})
	}
	return l
}

// equal compares regions exactly.
func equal(a, b api.Region) bool {
	return slices.EqualFunc(a.Rows, b.Rows, func(p, q api.Row) bool { return p.Y == q.Y && slices.Equal(p.Runs, q.Runs) })
}

func clone(r api.Region) api.Region {
	var c api.Region
	for _, w := range r.Rows {
		c.Rows = append(c.Rows, api.Row{Y: w.Y, Runs: slices.Clone(w.Runs)})
	}
	return c
}

// invalid are regions that are not valid, each for another reason.
func invalid() []api.Region {
	return []api.Region{
		rows(row(0)), rows(row(0, 3, 3)), rows(row(0, 3, 2)), rows(row(0, 0, 2, 2, 3)), rows(row(0, 0, 2, 1, 3)), rows(row(0, 5, 6, 0, 1)),
		rows(row(1, 0, 1), row(0, 0, 1)), rows(row(0, 0, 1), row(0, 2, 3)), rows(row(0, 0, 1), row(1), row(2, 0, 1)),
		rows(row(-edge-1, 0, 1)), rows(row(edge, 0, 1)), rows(row(0, -edge-1, 0)), rows(row(0, 0, edge+1)), rows(row(0, edge, edge+1)),
		rows(row(math.MinInt, 0, 1)), rows(row(math.MaxInt, 0, 1)), rows(row(0, math.MinInt, math.MaxInt)), rows(row(0, 0, math.MaxInt)),
		rows(row(0, 0, 1), row(1, 0, 1, 2, 2)), rows(row(0, 0, 1, 5, math.MaxInt)),
	}
}

// set is a region as a map, for comparison.
type set map[api.Cell]bool

func setOf(l []api.Cell) set {
	s := set{}
	for _, c := range l {
		s[c] = true
	}
	return s
}

// region returns the valid form of a set, cell by cell.
func (s set) region() api.Region {
	var r api.Region
	for y := -edge; y < edge; y++ {
		w := api.Row{Y: y}
		for c := range s {
			if c.Y == y {
				w.Runs = append(w.Runs, api.Run{From: c.X, To: c.X + 1})
			}
		}
		slices.SortFunc(w.Runs, func(a, b api.Run) int { return a.From - b.From })
		for i := 1; i < len(w.Runs); {
			if w.Runs[i-1].To == w.Runs[i].From {
				w.Runs[i-1].To = w.Runs[i].To
				w.Runs = slices.Delete(w.Runs, i, i+1)
			} else {
				i++
			}
		}
		if len(w.Runs) > 0 {
			r.Rows = append(r.Rows, w)
		}
	}
	return r
}

// randomCells returns cells close to each other, some of them more than once, at a place that may be at the border.
func randomCells(random *rand.Rand) []api.Cell {
	width, height := 1+random.Intn(6), 1+random.Intn(5)
	at := api.Cell{X: []int{-3, -edge, edge - width}[random.Intn(3)], Y: []int{-3, -edge, edge - height}[random.Intn(3)]}
	l := []api.Cell{}
	for range random.Intn(2 * width * height) {
		l = append(l, api.Cell{X: at.X + random.Intn(width), Y: at.Y + random.Intn(height)})
	}
	return l
}

// P18.1.
func TestValid(t *testing.T) {
	for _, r := range []api.Region{
		{}, rows(), rows(row(0, 0, 1)), rows(row(-3, -2, -1, 0, 5), row(0, 0, 1), row(1, 0, 1)),
		rows(row(-edge, -edge, edge), row(edge-1, -edge, -edge+1, edge-1, edge)),
	} {
		if !Valid(r) {
			t.Errorf("%v is not valid", r)
		}
	}
	for _, r := range invalid() {
		if Valid(r) {
			t.Errorf("%v is valid", r)
		}
	}
}

// P18.1.
func TestOf(t *testing.T) {
	for _, q := range []struct {
		l    []api.Cell
		want api.Region
		e    api.Errno
	}{
		{l: cells(1, 0, 0, 0, 3, 0, 0, 2), want: rows(row(0, 0, 2, 3, 4), row(2, 0, 1))},
		{l: nil},
		{l: cells(5, 5, 5, 5, 5, 5), want: rows(row(5, 5, 6))},
		{l: cells(2, 0, 1, 0, 0, 0, 1, 0, 2, 0), want: rows(row(0, 0, 3))},
		{l: cells(-edge, edge-1, edge-1, -edge), want: rows(row(-edge, edge-1, edge), row(edge-1, -edge, -edge+1))},
		{l: cells(0, 0, edge, 0), e: api.ErrRange}, {l: cells(0, edge), e: api.ErrRange}, {l: cells(-edge-1, 0, 0, 0), e: api.ErrRange},
		{l: cells(0, -edge-1), e: api.ErrRange}, {l: cells(math.MaxInt, math.MinInt), e: api.ErrRange},
	} {
		given := slices.Clone(q.l)
		if got, e := Of(q.l); !equal(got, q.want) || e != q.e || !slices.Equal(q.l, given) {
			t.Errorf("Of(%v) = %v, %d; want %v, %d", q.l, got, e, q.want, q.e)
		}
	}
}

// P18.1, P18.4, P18.6.
func TestCellsOfRegions(t *testing.T) {
	random := rand.New(rand.NewSource(18))
	for range 300 {
		l := randomCells(random)
		s := setOf(l)
		r, e := Of(l)
		if want := s.region(); e != api.OK || !equal(r, want) || !Valid(r) {
			t.Fatalf("Of(%v) = %v, %d; want %v", l, r, e, want)
		}
		if Count(r) != len(s) {
			t.Errorf("Count(%v) = %d", r, Count(r))
		}
		low, high, some := Box(r)
		got := Cells(r)
		for i, c := range got {
			if i > 0 && (c.Y < got[i-1].Y || c.Y == got[i-1].Y && c.X <= got[i-1].X) {
				t.Errorf("Cells(%v) = %v", r, got)
			}
			if c.X < low.X || c.X > high.X || c.Y < low.Y || c.Y > high.Y {
				t.Errorf("%v is not in the box of %v", c, r)
			}
		}
		if len(setOf(got)) != len(s) || len(got) != len(s) || some != (len(s) > 0) {
			t.Errorf("Cells(%v) = %v", r, got)
		}
		touched := [4]bool{}
		for c := range s {
			touched = [4]bool{touched[0] || c.X == low.X, touched[1] || c.X == high.X, touched[2] || c.Y == low.Y, touched[3] || c.Y == high.Y}
			for _, n := range cells(c.X, c.Y, c.X+1, c.Y, c.X-1, c.Y, c.X, c.Y+1, c.X, c.Y-1) {
				if Contains(r, n) != s[n] {
					t.Errorf("Contains(%v, %v) = %v", r, n, !s[n])
				}
			}
		}
		if some && touched != [4]bool{true, true, true, true} {
			t.Errorf("Box(%v) = %v, %v", r, low, high)
		}
		if again, e := Of(got); !equal(again, r) || e != api.OK {
			t.Errorf("Of(%v) = %v, %d", got, again, e)
		}
	}
}

// P18.1, P18.2, P18.3, P18.4, P18.5, P18.8: regions that are not valid.
func TestInvalidRegions(t *testing.T) {
	good := rows(row(0, 0, 1))
	for _, r := range invalid() {
		if l := Cells(r); len(l) != 0 || Count(r) != 0 || Contains(r, api.Cell{}) || Picture(r) != "" {
			t.Errorf("%v has cells: %v", r, l)
		}
		for _, pair := range [][2]api.Region{{r, good}, {good, r}, {r, {}}, {{}, r}, {r, r}} {
			u, i, s := Union(pair[0], pair[1]), Intersect(pair[0], pair[1]), Subtract(pair[0], pair[1])
			if len(u.Rows) != 0 || len(i.Rows) != 0 || len(s.Rows) != 0 {
				t.Errorf("operations on %v give %v, %v, %v", pair, u, i, s)
			}
			if Same(pair[0], pair[1]) || Within(pair[0], pair[1]) {
				t.Errorf("%v and %v are the same, or one is within the other", pair[0], pair[1])
			}
		}
		if s, e := Shift(r, math.MaxInt, 0); e != api.ErrArg || len(s.Rows) != 0 {
			t.Errorf("Shift(%v) = %v, %d", r, s, e)
		}
		if low, high, some := Box(r); some || low != (api.Cell{}) || high != (api.Cell{}) {
			t.Errorf("Box(%v) = %v, %v, %v", r, low, high, some)
		}
	}
	if low, high, some := Box(api.Region{}); some || low != (api.Cell{}) || high != (api.Cell{}) {
		t.Errorf("Box of nothing = %v, %v, %v", low, high, some)
	}
}

// P18.2, P18.5, P18.6, P18.7.
func TestOperations(t *testing.T) {
	random := rand.New(rand.NewSource(19))
	within, equals := 0, 0
	for range 400 {
		a, b := randomCells(random), randomCells(random)
		if random.Intn(2) == 0 {
			b = a[:random.Intn(len(a)+1)]
		}
		r, _ := Of(a)
		s, _ := Of(b)
		givenR, givenS := clone(r), clone(s)
		inA, inB := setOf(a), setOf(b)
		union, common, rest := set{}, set{}, set{}
		for c := range inA {
			union[c] = true
			if inB[c] {
				common[c] = true
			} else {
				rest[c] = true
			}
		}
		for c := range inB {
			union[c] = true
		}
		if got := Union(r, s); !equal(got, union.region()) {
			t.Errorf("Union(%v, %v) = %v", r, s, got)
		}
		if got := Intersect(r, s); !equal(got, common.region()) {
			t.Errorf("Intersect(%v, %v) = %v", r, s, got)
		}
		if got := Subtract(r, s); !equal(got, rest.region()) {
			t.Errorf("Subtract(%v, %v) = %v", r, s, got)
		}
		if got := Within(r, s); got != (len(rest) == 0) {
			t.Errorf("Within(%v, %v) = %v", r, s, got)
		}
		if got := Same(r, s); got != (len(rest) == 0 && len(inA) == len(inB)) {
			t.Errorf("Same(%v, %v) = %v", r, s, got)
		}
		if !equal(Union(r, s), Union(s, r)) || !equal(Intersect(r, s), Intersect(s, r)) || Count(Union(r, s))+Count(Intersect(r, s)) != Count(r)+Count(s) {
			t.Errorf("the laws of sets do not hold for %v and %v", r, s)
		}
		if !equal(r, givenR) || !equal(s, givenS) {
			t.Fatalf("%v or %v has been changed", givenR, givenS)
		}
		if len(rest) == 0 && len(inA) > 0 {
			within++
		}
		if Same(r, s) {
			equals++
		}
	}
	if within < 20 || equals < 5 {
		t.Errorf("only %d regions are within another one, and %d are equal to it", within, equals)
	}
}

// P18.2 and rule 0.4: a result shares no memory with the arguments.
func TestNewMemory(t *testing.T) {
	r := rows(row(0, 0, 2), row(3, 1, 4))
	moved, _ := Shift(r, 0, 0)
	for i, got := range []api.Region{Union(r, api.Region{}), Union(api.Region{}, r), Subtract(r, api.Region{}), Intersect(r, r), moved} {
		if !equal(got, r) {
			t.Fatalf("result %d is %v", i, got)
		}
		got.Rows[0].Y, got.Rows[1].Runs[0].From = -7, -7
		if !equal(r, rows(row(0, 0, 2), row(3, 1, 4))) {
			t.Fatalf("result %d shares memory with its argument: %v", i, r)
		}
	}
}

// P18.3.
func TestShift(t *testing.T) {
	r := rows(row(-2, -3, 0), row(5, 1, 2, 4, 7))
	for _, q := range []struct {
		r      api.Region
		dx, dy int
		want   api.Region
		e      api.Errno
	}{
		{r, 0, 0, r, api.OK},
		{r, 10, -1, rows(row(-3, 7, 10), row(4, 11, 12, 14, 17)), api.OK},
		{r, edge - 7, 0, rows(row(-2, edge-10, edge-7), row(5, edge-6, edge-5, edge-3, edge)), api.OK},
		{r, edge - 6, 0, api.Region{}, api.ErrRange},
		{r, -edge + 3, -edge + 2, rows(row(-edge, -edge, -edge+3), row(7-edge, 4-edge, 5-edge, 7-edge, 10-edge)), api.OK},
		{r, -edge + 2, 0, api.Region{}, api.ErrRange},
		{r, 0, -edge + 1, api.Region{}, api.ErrRange},
		{r, 0, edge - 6, rows(row(edge-8, -3, 0), row(edge-1, 1, 2, 4, 7)), api.OK},
		{r, 0, edge - 5, api.Region{}, api.ErrRange},
		{r, math.MaxInt, 0, api.Region{}, api.ErrRange},
		{r, 0, math.MinInt, api.Region{}, api.ErrRange},
		{r, math.MinInt, math.MaxInt, api.Region{}, api.ErrRange},
		{api.Region{}, math.MinInt, math.MaxInt, api.Region{}, api.OK},
	} {
		given := clone(q.r)
		if got, e := Shift(q.r, q.dx, q.dy); !equal(got, q.want) || e != q.e || !equal(q.r, given) {
			t.Errorf("Shift(%v, %d, %d) = %v, %d; want %v, %d", q.r, q.dx, q.dy, got, e, q.want, q.e)
		}
	}
}

// P18.8.
func TestPicture(t *testing.T) {
	r, _ := Of(cells(1, 0, 0, 0, 3, 0, 0, 2))
	if got := Picture(r); got != "#...\n....\n##.#\n" {
		t.Errorf("Picture(%v) = %q", r, got)
	}
	for _, q := range []struct {
		r    api.Region
		want string
	}{
		{api.Region{}, ""},
		{rows(row(-7, 9, 10)), "#\n"},
		{rows(row(0, 0, 1), row(1, 1, 2)), ".#\n#.\n"},
		{rows(row(0, 0, 255), row(255, 0, 1)), "#" + strings.Repeat(".", 254) + "\n" + strings.Repeat(strings.Repeat(".", 255)+"\n", 254) + strings.Repeat("#", 255) + "\n"},
		{rows(row(0, 0, 256), row(255, 0, 1)), ""},
		{rows(row(0, 0, 255), row(256, 0, 1)), ""},
		{rows(row(-edge, 0, 1), row(edge-1, 6, 7)), strings.Repeat(".", 6) + "#\n" + strings.Repeat(".......\n", 8190) + "#......\n"},
		{rows(row(-edge, 0, 1), row(edge-1, 7, 8)), ""},
	} {
		if got := Picture(q.r); got != q.want {
			t.Errorf("Picture(%v) = %q; want %q", q.r, got, q.want)
		}
	}
}

// P18.9.
func TestRead(t *testing.T) {
	for _, q := range []struct {
		s    string
		at   api.Cell
		want api.Region
		e    api.Errno
	}{
		{s: "#...\n....\n##.#\n", want: rows(row(0, 0, 2, 3, 4), row(2, 0, 1))},
		{s: "", at: api.Cell{X: math.MaxInt, Y: math.MinInt}},
		{s: "....\n", at: api.Cell{X: math.MaxInt, Y: math.MinInt}},
		{s: ".#\n..\n", at: api.Cell{X: -5, Y: 7}, want: rows(row(8, -4, -3))},
		{s: ".#.\n", at: api.Cell{X: edge - 2, Y: edge - 1}, want: rows(row(edge-1, edge-1, edge))},
		{s: ".#\n.#\n", at: api.Cell{X: -edge - 1, Y: -edge}, want: rows(row(-edge, -edge, -edge+1), row(-edge+1, -edge, -edge+1))},
		{s: ".#.\n", at: api.Cell{X: edge - 1}, e: api.ErrRange},
		{s: "#\n.\n", at: api.Cell{Y: edge - 1}, e: api.ErrRange},
		{s: ".\n#\n", at: api.Cell{Y: -edge - 1}, e: api.ErrRange},
		{s: "..#\n", at: api.Cell{X: math.MaxInt, Y: 0}, e: api.ErrRange},
		{s: "#\n.\n.\n", at: api.Cell{X: 0, Y: math.MaxInt}, e: api.ErrRange},
		{s: "#", e: api.ErrSyntax}, {s: "\n", e: api.ErrSyntax}, {s: "#\n\n", e: api.ErrSyntax}, {s: "\n#\n", e: api.ErrSyntax}, {s: "#\n##\n", e: api.ErrSyntax},
		{s: "##\n#\n", e: api.ErrSyntax}, {s: "#x\n", e: api.ErrSyntax}, {s: "#x#\n", e: api.ErrSyntax}, {s: "##\r\n", e: api.ErrSyntax}, {s: "# #\n", e: api.ErrSyntax},
		{s: "#\n#", e: api.ErrSyntax}, {s: "#x\n", at: api.Cell{X: edge}, e: api.ErrSyntax},
		{s: strings.Repeat("#\n", 32769), e: api.ErrLimit},
		{s: strings.Repeat("x", 65537), e: api.ErrLimit},
		{s: strings.Repeat("x", 65536), e: api.ErrSyntax},
		{s: strings.Repeat(".\n", 32767) + "#\n", want: rows(row(0, 0, 1))},
	} {
		if got, e := Read(q.s, q.at); !equal(got, q.want) || e != q.e {
			t.Errorf("Read(%.30q, %v) = %v, %d; want %v, %d", q.s, q.at, got, e, q.want, q.e)
		}
	}
}

// P18.8, P18.9, P18.10.
func TestPictureIsRead(t *testing.T) {
	random := rand.New(rand.NewSource(20))
	for range 200 {
		r, _ := Of(randomCells(random))
		low, high, some := Box(r)
		picture := Picture(r)
		if got, e := Read(picture, low); !equal(got, r) || e != api.OK {
			t.Errorf("Read(%q, %v) = %v, %d; want %v", picture, low, got, e, r)
		}
		if !some {
			continue
		}
		lines := strings.Split(picture, "\n")
		if len(lines) != high.Y-low.Y+2 || len(lines[0]) != high.X-low.X+1 {
			t.Errorf("Picture(%v) = %q", r, picture)
		}
		moved, e := Shift(r, -low.X, -low.Y)
		if e != api.OK || Picture(moved) != picture {
			t.Errorf("Picture(%v) = %q", moved, Picture(moved))
		}
	}
}
