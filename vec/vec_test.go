package vec

import (
	"math"
	"math/big"
	"math/rand"
	"slices"
	"testing"

	"additive/api"
)

const edge = api.MaxCoord

// outside are coordinates beyond a bound, some of which wrap around in careless arithmetic.
func outside(most int) []int {
	return []int{most + 1, -most - 1, 3 * most, -1 << 62, math.MaxInt, math.MinInt, math.MinInt + 1}
}

// spoil returns the vectors that have v's coordinates but for one, which is n.
func spoil(v api.Vec, n int) []api.Vec {
	return []api.Vec{{X: n, Y: v.Y, Z: v.Z}, {X: v.X, Y: n, Z: v.Z}, {X: v.X, Y: v.Y, Z: n}}
}

// randomVec returns a vector whose coordinates are from -most to most, often at the bounds or small.
func randomVec(random *rand.Rand, most int) api.Vec {
	coordinate := func() int {
		switch random.Intn(4) {
		case 0:
			return random.Intn(5) - 2
		case 1:
			return most * (random.Intn(3) - 1)
		}
		return random.Intn(2*most+1) - most
	}
	return api.Vec{X: coordinate(), Y: coordinate(), Z: coordinate()}
}

func list(v api.Vec) [3]int {
	return [3]int{v.X, v.Y, v.Z}
}

// exactDot returns the scalar product without a limit.
func exactDot(a, b api.Vec) *big.Int {
	sum := new(big.Int)
	for i := range 3 {
		sum.Add(sum, new(big.Int).Mul(big.NewInt(int64(list(a)[i])), big.NewInt(int64(list(b)[i]))))
	}
	return sum
}

// P4.1.
func TestValid(t *testing.T) {
	for _, v := range []api.Vec{{}, {X: edge, Y: edge, Z: edge}, {X: -edge, Y: -edge, Z: -edge}, {X: 1, Y: -2, Z: 3}} {
		if !Valid(v) {
			t.Errorf("%v is not valid", v)
		}
		for _, n := range outside(edge) {
			for _, w := range spoil(v, n) {
				if Valid(w) {
					t.Errorf("%v is valid", w)
				}
			}
		}
	}
}

// P4.2.
func TestSub(t *testing.T) {
	for _, q := range [][3]api.Vec{
		{{X: 5, Y: 7, Z: 9}, {X: 1, Y: 10, Z: -3}, {X: 4, Y: -3, Z: 12}},
		{{}, {X: 1, Y: 2, Z: 3}, {X: -1, Y: -2, Z: -3}},
		{{X: edge, Y: -edge, Z: edge}, {X: -edge, Y: edge, Z: edge}, {X: 2 * edge, Y: -2 * edge, Z: 0}},
	} {
		if got := Sub(q[0], q[1]); got != q[2] {
			t.Errorf("Sub(%v, %v) = %v; want %v", q[0], q[1], got, q[2])
		}
	}
	good := api.Vec{X: 1, Y: 2, Z: 3}
	for _, n := range outside(edge) {
		for _, bad := range spoil(good, n) {
			if got := Sub(bad, good); got != (api.Vec{}) {
				t.Errorf("Sub(%v, %v) = %v", bad, good, got)
			}
			if got := Sub(good, bad); got != (api.Vec{}) {
				t.Errorf("Sub(%v, %v) = %v", good, bad, got)
			}
		}
	}
}

// P4.3: ordinary products.
func TestProducts(t *testing.T) {
	x, y, z := api.Vec{X: 1}, api.Vec{Y: 1}, api.Vec{Z: 1}
	for _, q := range [][3]api.Vec{
		{x, y, z}, {y, z, x}, {z, x, y}, {y, x, {Z: -1}}, {z, y, {X: -1}}, {x, z, {Y: -1}}, {x, x, {}},
		{{X: 2, Y: 3, Z: 5}, {X: 7, Y: 11, Z: 13}, {X: -16, Y: 9, Z: 1}},
		{{X: 2 * edge, Y: 2 * edge}, {X: -2 * edge, Y: 2 * edge}, {Z: 8 * edge * edge}},
	} {
		if got := Cross(q[0], q[1]); got != q[2] {
			t.Errorf("Cross(%v, %v) = %v; want %v", q[0], q[1], got, q[2])
		}
	}
	if got := Dot(api.Vec{X: 2, Y: 3, Z: 5}, api.Vec{X: 7, Y: -11, Z: 13}); got != 46 {
		t.Errorf("Dot = %d; want 46", got)
	}
	if got := Det(x, api.Vec{Y: 2}, api.Vec{Z: 3}); got != 6 {
		t.Errorf("Det = %d; want 6", got)
	}
	if got := Det(api.Vec{X: 2, Y: 3, Z: 5}, api.Vec{X: 7, Y: 11, Z: 13}, api.Vec{X: 17, Y: 19, Z: 23}); got != -78 {
		t.Errorf("Det = %d; want -78", got)
	}
}

// P4.3: all products of small vectors are exact.
func TestProductsAreExact(t *testing.T) {
	random := rand.New(rand.NewSource(4))
	for range 3000 {
		a, b, c := randomVec(random, 2*edge), randomVec(random, 2*edge), randomVec(random, 2*edge)
		cross := Cross(b, c)
		want := api.Vec{X: b.Y*c.Z - b.Z*c.Y, Y: b.Z*c.X - b.X*c.Z, Z: b.X*c.Y - b.Y*c.X}
		if cross != want {
			t.Errorf("Cross(%v, %v) = %v; want %v", b, c, cross, want)
		}
		if got, want := Det(a, b, c), exactDot(a, cross); !want.IsInt64() || int64(got) != want.Int64() {
			t.Errorf("Det(%v, %v, %v) = %d; want %v", a, b, c, got, want)
		}
		far := randomVec(random, 1<<40)
		if got, want := Dot(a, far), exactDot(a, far); !want.IsInt64() || int64(got) != want.Int64() {
			t.Errorf("Dot(%v, %v) = %d; want %v", a, far, got, want)
		}
	}
}

// P4.3: the products of vectors that are too large.
func TestProductsOfLargeVectors(t *testing.T) {
	good := api.Vec{X: 1, Y: 2, Z: 4}
	other := api.Vec{X: 3, Y: -5, Z: 7}
	third := api.Vec{X: -2, Y: 9, Z: 1}
	for _, n := range outside(2 * edge) {
		for _, bad := range spoil(good, n) {
			if Cross(bad, other) != (api.Vec{}) || Cross(other, bad) != (api.Vec{}) {
				t.Errorf("Cross with %v is not zero", bad)
			}
			if got := Dot(bad, other); got != 0 {
				t.Errorf("Dot(%v, %v) = %d", bad, other, got)
			}
			if Det(bad, other, third) != 0 || Det(other, bad, third) != 0 || Det(other, third, bad) != 0 {
				t.Errorf("Det with %v is not zero", bad)
			}
		}
	}
	for _, n := range outside(1 << 40) {
		for _, bad := range spoil(good, n) {
			if got := Dot(other, bad); got != 0 {
				t.Errorf("Dot(%v, %v) = %d", other, bad, got)
			}
		}
	}
	for _, n := range []int{2 * edge, -2 * edge} {
		for _, v := range spoil(good, n) {
			if Cross(v, other) == (api.Vec{}) || Dot(v, other) == 0 || Det(v, other, third) == 0 || Det(other, third, v) == 0 {
				t.Errorf("%v is taken for a vector that is not small", v)
			}
		}
	}
	for _, n := range []int{2*edge + 1, 1 << 40, -1 << 40} {
		for _, v := range spoil(good, n) {
			if want := other.X*v.X + other.Y*v.Y + other.Z*v.Z; Dot(other, v) != want {
				t.Errorf("Dot(%v, %v) = %d; want %d", other, v, Dot(other, v), want)
			}
		}
	}
}

// P4.4.
func TestLess(t *testing.T) {
	ascending := []api.Vec{
		{X: math.MinInt, Y: math.MaxInt, Z: math.MaxInt}, {X: -1, Y: 9, Z: 9}, {X: 0, Y: math.MinInt, Z: 7},
		{X: 0, Y: 0, Z: math.MinInt}, {X: 0, Y: 0, Z: -1}, {}, {X: 0, Y: 0, Z: 5}, {X: 0, Y: 0, Z: math.MaxInt}, {X: 0, Y: 1, Z: -5}, {X: 0, Y: 1, Z: 0},
		{X: 0, Y: math.MaxInt, Z: math.MinInt}, {X: 1, Y: -9, Z: -9}, {X: 1, Y: -9, Z: 3}, {X: 1, Y: -8, Z: -9}, {X: math.MaxInt, Y: math.MinInt, Z: math.MinInt},
	}
	for i, a := range ascending {
		for j, b := range ascending {
			if got := Less(a, b); got != (i < j) {
				t.Errorf("Less(%v, %v) = %v", a, b, got)
			}
		}
	}
}

// P4.5.
func TestBounds(t *testing.T) {
	for _, q := range []struct {
		l         []api.Vec
		low, high api.Vec
	}{
		{[]api.Vec{{X: 1, Y: 5}, {X: 3, Y: 2}}, api.Vec{X: 1, Y: 2}, api.Vec{X: 3, Y: 5}},
		{[]api.Vec{{X: 1, Y: -2, Z: 3}}, api.Vec{X: 1, Y: -2, Z: 3}, api.Vec{X: 1, Y: -2, Z: 3}},
		{[]api.Vec{{X: 5, Y: 6, Z: 7}, {X: 4, Y: 9, Z: 8}, {X: 6, Y: 3, Z: 1}}, api.Vec{X: 4, Y: 3, Z: 1}, api.Vec{X: 6, Y: 9, Z: 8}},
		{[]api.Vec{{X: -5, Y: -6, Z: -7}, {X: -4, Y: -9, Z: -8}}, api.Vec{X: -5, Y: -9, Z: -8}, api.Vec{X: -4, Y: -6, Z: -7}},
		{
			[]api.Vec{{X: math.MinInt, Y: 0, Z: math.MaxInt}, {X: math.MaxInt, Y: math.MinInt, Z: math.MaxInt}},
			api.Vec{X: math.MinInt, Y: math.MinInt, Z: math.MaxInt}, api.Vec{X: math.MaxInt, Y: 0, Z: math.MaxInt},
		},
	} {
		// The result depends neither on the order nor on what lies behind the end of the slice.
		for range 2 {
			room := append(slices.Clone(q.l), api.Vec{X: math.MinInt, Y: math.MinInt, Z: math.MinInt})
			low, high, ok := Bounds(room[:len(q.l)])
			if low != q.low || high != q.high || !ok {
				t.Errorf("Bounds(%v) = %v, %v, %v; want %v, %v", q.l, low, high, ok, q.low, q.high)
			}
			slices.Reverse(q.l)
		}
	}
	for _, l := range [][]api.Vec{nil, {}} {
		if low, high, ok := Bounds(l); low != (api.Vec{}) || high != (api.Vec{}) || ok {
			t.Errorf("Bounds of no vectors = %v, %v, %v", low, high, ok)
		}
	}
}

// orders are the permutations of three.
var orders = [][3]int{{0, 1, 2}, {0, 2, 1}, {1, 0, 2}, {1, 2, 0}, {2, 0, 1}, {2, 1, 0}}

// P4.6.
func TestCollinear(t *testing.T) {
	for _, q := range []struct {
		l    [3]api.Vec
		want bool
	}{
		{[3]api.Vec{{}, {X: 1, Y: 2, Z: 3}, {X: 2, Y: 4, Z: 6}}, true},
		{[3]api.Vec{{}, {X: 1, Y: 2, Z: 3}, {X: -3, Y: -6, Z: -9}}, true},
		{[3]api.Vec{{X: 1, Y: 1, Z: 1}, {X: 1, Y: 1, Z: 1}, {X: 2, Y: 5, Z: 9}}, true},
		{[3]api.Vec{{X: 7}, {X: 7}, {X: 7}}, true},
		{[3]api.Vec{{X: edge, Y: edge, Z: edge}, {}, {X: -edge, Y: -edge, Z: -edge}}, true},
		{[3]api.Vec{{}, {X: 1, Y: 2, Z: 3}, {X: 2, Y: 4, Z: 7}}, false},
		{[3]api.Vec{{}, {X: 1, Y: 2, Z: 3}, {X: 2, Y: 5, Z: 6}}, false},
		{[3]api.Vec{{}, {X: 1, Y: 2, Z: 3}, {X: 3, Y: 4, Z: 6}}, false},
		{[3]api.Vec{{}, {X: 1}, {Y: 1}}, false},
		{[3]api.Vec{{}, {Y: 1}, {Z: 1}}, false},
		{[3]api.Vec{{X: -edge, Y: -edge}, {X: edge, Y: edge - 1}, {X: edge - 1, Y: edge - 2}}, false},
		{[3]api.Vec{{X: -edge, Y: -edge, Z: -edge}, {X: edge, Y: edge, Z: edge}, {X: edge, Y: edge, Z: edge - 1}}, false},
		{[3]api.Vec{{}, {}, {X: edge + 1}}, false},
		{[3]api.Vec{{X: math.MinInt}, {X: math.MinInt}, {X: math.MinInt}}, false},
		{[3]api.Vec{{Y: math.MaxInt}, {}, {}}, false},
	} {
		for _, o := range orders {
			a, b, c := q.l[o[0]], q.l[o[1]], q.l[o[2]]
			if got := Collinear(a, b, c); got != q.want {
				t.Errorf("Collinear(%v, %v, %v) = %v", a, b, c, got)
			}
		}
	}
}

// The consequences of the chapter.
func TestConsequences(t *testing.T) {
	random := rand.New(rand.NewSource(5))
	for range 2000 {
		a, b, c := randomVec(random, 2*edge), randomVec(random, 2*edge), randomVec(random, 2*edge)
		det := Det(a, b, c)
		if Det(b, c, a) != det || Det(b, a, c) != -det || Det(a, a, c) != 0 || Det(a, b, b) != 0 || Det(a, b, a) != 0 {
			t.Errorf("Det of %v, %v and %v is not alternating", a, b, c)
		}
		if Dot(a, Cross(a, b)) != 0 {
			t.Errorf("Cross(%v, %v) is not orthogonal", a, b)
		}
		if Less(a, b) == Less(b, a) && a != b || Less(a, a) || Less(a, b) && Less(b, c) && !Less(a, c) {
			t.Errorf("Less of %v, %v and %v is not an order", a, b, c)
		}
	}
}
