package runs

import (
	"math"
	"math/rand"
	"slices"
	"testing"

	"additive/api"
)

const edge = 1 << 20

// list returns the runs whose bounds are given in pairs.
func list(bounds ...int) []api.Run {
	l := []api.Run{}
	for i := 0; i < len(bounds); i += 2 {
		l = append(l, api.Run{From: bounds[i], To: bounds[i+1]})
	}
	return l
}

// span is the number of integers of the sets of bits below.
const span = 9

// listOf returns the list of the set of all at + i for which bit i is set.
func listOf(set uint, at int) []api.Run {
	l := []api.Run{}
	for i := range span {
		switch {
		case set>>i&1 == 0:
		case i > 0 && set>>(i-1)&1 == 1:
			l[len(l)-1].To++
		default:
			l = append(l, api.Run{From: at + i, To: at + i + 1})
		}
	}
	return l
}

// spare returns l with room behind its end, which a function must neither use nor change.
func spare(l []api.Run) []api.Run {
	room := append(slices.Clone(l), list(-7, 7, 3, 9, -100, 100)...)
	return room[:len(l)]
}

// check compares a list with the one that is wanted, and checks that it is valid.
func check(t *testing.T, what string, got, want []api.Run) {
	t.Helper()
	if !slices.Equal(got, want) || !Valid(got) {
		t.Errorf("%s is %v; want %v", what, got, want)
	}
}

// invalid are lists that are not valid, each for another reason.
var invalid = [][]api.Run{
	list(3, 3), list(3, 2), list(0, 1, 1, 2), list(0, 5, 4, 6), list(0, 9, 2, 3), list(5, 6, 0, 1), list(0, 1, 0, 1),
	list(0, 1, 3, 3), list(0, 0, 3, 4), list(-edge-1, 0), list(0, edge+1), list(edge, edge+1), list(-edge-1, -edge),
	list(0, 1, 5, edge+1), list(math.MinInt, math.MaxInt), list(math.MaxInt, math.MinInt), list(0, math.MaxInt), list(math.MinInt, 0),
	list(0, 2, 3, 4, 4, 5),
}

// P6.1.
func TestValid(t *testing.T) {
	for _, l := range [][]api.Run{
		nil, {}, list(0, 1), list(-5, 5), list(0, 1, 2, 3), list(-9, -8, -7, 0, 1, 8),
		list(-edge, edge), list(-edge, -edge+1, edge-1, edge),
	} {
		if !Valid(l) {
			t.Errorf("%v is not valid", l)
		}
	}
	for _, l := range invalid {
		if Valid(l) {
			t.Errorf("%v is valid", l)
		}
	}
}

// P6.2.
func TestNorm(t *testing.T) {
	for _, q := range []struct {
		l, want []api.Run
		e       api.Errno
	}{
		{list(5, 7, 1, 3, 3, 4, 9, 2), list(1, 4, 5, 7), api.OK},
		{nil, nil, api.OK},
		{list(3, 3), nil, api.OK},
		{list(math.MaxInt, math.MinInt, 1, 2, math.MinInt, math.MinInt, edge+5, edge+5, -edge-3, -edge-9), list(1, 2), api.OK},
		{list(0, 10, 2, 3, 4, 5), list(0, 10), api.OK},
		{list(2, 3, 0, 10, 10, 11), list(0, 11), api.OK},
		{list(0, 4, 2, 8, 9, 10), list(0, 8, 9, 10), api.OK},
		{list(0, 2, 0, 5, 0, 3), list(0, 5), api.OK},
		{list(7, 9, 7, 9), list(7, 9), api.OK},
		{list(-edge, edge, 0, 1), list(-edge, edge), api.OK},
		{list(edge-1, edge, -edge, -edge+1), list(-edge, -edge+1, edge-1, edge), api.OK},
		{list(0, edge+1), nil, api.ErrRange},
		{list(-edge-1, 0), nil, api.ErrRange},
		{list(0, 1, edge, edge+1), nil, api.ErrRange},
		{list(-edge-2, -edge-1, 0, 1), nil, api.ErrRange},
		{list(math.MinInt, math.MaxInt), nil, api.ErrRange},
		{list(edge+1, edge+2, 0, 0), nil, api.ErrRange},
	} {
		given := spare(q.l)
		got, e := Norm(given)
		check(t, "Norm", got, q.want)
		if e != q.e || !slices.Equal(given, q.l) {
			t.Errorf("Norm(%v): error %d", q.l, e)
		}
	}
}

// P6.2: runs of any kind, in any order.
func TestNormOfAnyRuns(t *testing.T) {
	random := rand.New(rand.NewSource(8))
	for range 5000 {
		at := [3]int{-4, -edge, edge - span}[random.Intn(3)]
		l := make([]api.Run, random.Intn(6))
		set := uint(0)
		for i := range l {
			from, to := random.Intn(span+1), random.Intn(span+1)
			for x := from; x < to; x++ {
				set |= 1 << x
			}
			l[i] = api.Run{From: at + from, To: at + to}
		}
		got, e := Norm(l)
		check(t, "Norm", got, listOf(set, at))
		if e != api.OK {
			t.Errorf("Norm(%v): error %d", l, e)
		}
	}
}

// P6.3, P6.8: all pairs of small sets.
func TestOperations(t *testing.T) {
	for a := range uint(1) << span {
		l := spare(listOf(a, -4))
		for b := range uint(1) << span {
			m := spare(listOf(b, -4))
			check(t, "Union", Union(l, m), listOf(a|b, -4))
			check(t, "Intersect", Intersect(l, m), listOf(a&b, -4))
			check(t, "Subtract", Subtract(l, m), listOf(a&^b, -4))
		}
		check(t, "the list", l, listOf(a, -4))
	}
}

// P6.3: examples, among them sets at the bounds.
func TestOperationsAtTheBounds(t *testing.T) {
	all := list(-edge, edge)
	ends := list(-edge, -edge+1, edge-1, edge)
	inner := list(-edge+1, edge-1)
	check(t, "Subtract", Subtract(list(0, 10), list(3, 5)), list(0, 3, 5, 10))
	check(t, "Subtract", Subtract(all, ends), inner)
	check(t, "Subtract", Subtract(ends, all), nil)
	check(t, "Subtract", Subtract(all, nil), all)
	check(t, "Union", Union(ends, inner), all)
	check(t, "Union", Union(nil, ends), ends)
	check(t, "Union", Union(nil, nil), nil)
	check(t, "Intersect", Intersect(all, ends), ends)
	check(t, "Intersect", Intersect(inner, ends), nil)
	check(t, "Intersect", Intersect(all, nil), nil)
}

// P6.3: lists that are not valid.
func TestOperationsOnInvalidLists(t *testing.T) {
	good := list(0, 5, 7, 9)
	for _, bad := range invalid {
		for _, q := range [][2][]api.Run{{bad, good}, {good, bad}, {bad, nil}, {nil, bad}, {bad, bad}} {
			if len(Union(q[0], q[1])) != 0 || len(Intersect(q[0], q[1])) != 0 || len(Subtract(q[0], q[1])) != 0 {
				t.Errorf("an operation on %v and %v gives runs", q[0], q[1])
			}
		}
	}
}

// P6.4.
func TestShift(t *testing.T) {
	for _, q := range []struct {
		l    []api.Run
		d    int
		want []api.Run
		e    api.Errno
	}{
		{list(0, 1), edge - 1, list(edge-1, edge), api.OK},
		{list(0, 1), edge, nil, api.ErrRange},
		{list(0, 1), -edge, list(-edge, -edge+1), api.OK},
		{list(0, 1), -edge - 1, nil, api.ErrRange},
		{list(0, 3, 5, 9), 0, list(0, 3, 5, 9), api.OK},
		{list(0, 3, 5, 9), 4, list(4, 7, 9, 13), api.OK},
		{list(0, 3, 5, 9), -20, list(-20, -17, -15, -11), api.OK},
		{list(0, 3, 5, 9), edge - 9, list(edge-9, edge-6, edge-4, edge), api.OK},
		{list(0, 3, 5, 9), edge - 8, nil, api.ErrRange},
		{list(0, 3, 5, 9), -edge, list(-edge, 3-edge, 5-edge, 9-edge), api.OK},
		{list(-edge, -edge+1), 2*edge - 1, list(edge-1, edge), api.OK},
		{list(edge-1, edge), 1 - 2*edge, list(-edge, -edge+1), api.OK},
		{list(-edge, edge), 1, nil, api.ErrRange},
		{list(-edge, edge), -1, nil, api.ErrRange},
		{list(-5, 5), math.MaxInt, nil, api.ErrRange},
		{list(-5, 5), math.MinInt, nil, api.ErrRange},
		{nil, math.MaxInt, nil, api.OK},
		{nil, math.MinInt, nil, api.OK},
		{list(3, 3), 0, nil, api.ErrArg},
		{list(0, edge+1), -1, nil, api.ErrArg},
		{list(0, edge+1), math.MinInt, nil, api.ErrArg}, // ErrArg comes first
	} {
		given := spare(q.l)
		got, e := Shift(given, q.d)
		check(t, "Shift", got, q.want)
		if e != q.e || !slices.Equal(given, q.l) {
			t.Errorf("Shift(%v, %d): error %d", q.l, q.d, e)
		}
	}
}

// P6.5.
func TestGrow(t *testing.T) {
	for _, q := range []struct {
		l    []api.Run
		k    int
		want []api.Run
		e    api.Errno
	}{
		{list(0, 2, 5, 6), 2, list(-2, 8), api.OK},
		{list(0, 2, 5, 6), 1, list(-1, 3, 4, 7), api.OK},
		{list(0, 2, 4, 6), 1, list(-1, 7), api.OK}, // adjacent, not overlapping
		{list(0, 2, 5, 6), 0, list(0, 2, 5, 6), api.OK},
		{list(0, 1, 2, 3, 9, 10), 3, list(-3, 13), api.OK},
		{list(0, 1, 2, 3, 9, 10), 2, list(-2, 5, 7, 12), api.OK},
		{list(0, 1), 1 << 16, list(-1<<16, 1<<16+1), api.OK},
		{list(0, 1), 1<<16 + 1, nil, api.ErrArg},
		{list(0, 1), math.MaxInt, nil, api.ErrArg},
		{list(0, 1), -1, nil, api.ErrArg},
		{list(0, 1), math.MinInt, nil, api.ErrArg},
		{nil, 1 << 16, nil, api.OK},
		{nil, 1<<16 + 1, nil, api.ErrArg},
		{nil, -1, nil, api.ErrArg},
		{list(2, 1), 1, nil, api.ErrArg},
		{list(0, edge+1), 1, nil, api.ErrArg},
		{list(-edge+3, 0), 3, list(-edge, 3), api.OK},
		{list(-edge+3, 0), 4, nil, api.ErrRange},
		{list(0, edge-3), 3, list(-3, edge), api.OK},
		{list(0, edge-3), 4, nil, api.ErrRange},
		{list(-edge, edge), 0, list(-edge, edge), api.OK},
		{list(-edge, edge), 1, nil, api.ErrRange},
		{list(-edge, -edge+1, 5, 6), 1, nil, api.ErrRange},
		{list(5, 6, edge-1, edge), 1, nil, api.ErrRange},
		{list(5, 6, edge-1, edge), 1<<16 + 1, nil, api.ErrArg}, // ErrArg comes first
	} {
		given := spare(q.l)
		got, e := Grow(given, q.k)
		check(t, "Grow", got, q.want)
		if e != q.e || !slices.Equal(given, q.l) {
			t.Errorf("Grow(%v, %d): error %d", q.l, q.k, e)
		}
	}
}

// P6.6.
func TestShrink(t *testing.T) {
	for _, q := range []struct {
		l    []api.Run
		k    int
		want []api.Run
	}{
		{list(-2, 8), 2, list(0, 6)},
		{list(-2, 8), 4, list(2, 4)},
		{list(-2, 8), 5, nil},
		{list(-2, 9), 5, list(3, 4)},
		{list(-2, 8), 6, nil},
		{list(0, 1, 5, 8, 10, 12), 1, list(6, 7)},
		{list(0, 1, 5, 8), 0, list(0, 1, 5, 8)},
		{list(-edge, edge), edge - 1, list(-1, 1)},
		{list(-edge, edge), edge, nil},
		{list(-edge, edge), 1 << 16, list(-edge+1<<16, edge-1<<16)},
		{list(-edge, edge), math.MaxInt, nil},
		{list(5, 9, 20, 30), math.MaxInt, nil},
		{list(-edge, edge), 1 << 62, nil},
		{list(0, 9), -1, nil},
		{list(0, 9), math.MinInt, nil},
		{nil, 3, nil},
		{list(9, 0), 1, nil},
		{list(0, edge+1), 1, nil},
	} {
		given := spare(q.l)
		check(t, "Shrink", Shrink(given, q.k), q.want)
		if !slices.Equal(given, q.l) {
			t.Errorf("Shrink has changed %v", q.l)
		}
	}
}

// P6.7.
func TestLengthAndContains(t *testing.T) {
	for _, at := range []int{-4, -edge, edge - span} {
		for set := range uint(1) << span {
			l := spare(listOf(set, at))
			length := 0
			for i := -2; i < span+2; i++ {
				holds := i >= 0 && set>>i&1 == 1
				if holds {
					length++
				}
				if got := Contains(l, at+i); got != holds {
					t.Errorf("Contains(%v, %d) = %v", l, at+i, got)
				}
			}
			if got := Length(l); got != length {
				t.Errorf("Length(%v) = %d; want %d", l, got, length)
			}
		}
	}
	if got := Length(list(-edge, edge)); got != 2*edge {
		t.Errorf("Length of all = %d", got)
	}
	for _, x := range []int{math.MinInt, -edge - 1, edge, math.MaxInt} {
		if Contains(list(-edge, edge), x) {
			t.Errorf("all contain %d", x)
		}
	}
	for _, l := range invalid {
		if got := Length(l); got != 0 {
			t.Errorf("Length(%v) = %d", l, got)
		}
		for _, r := range l {
			if Contains(l, r.From) || Contains(l, r.From+1) || Contains(l, r.To-1) {
				t.Errorf("Contains of %v", l)
			}
		}
	}
}

// contained reports whether the set of l is contained in that of m.
func contained(l, m []api.Run) bool {
	return len(Subtract(l, m)) == 0
}

// P6.9.
func TestGrowAndShrink(t *testing.T) {
	for set := range uint(1) << span {
		l := listOf(set, -4)
		for k := range 4 {
			grown, e := Grow(l, k)
			if e != api.OK {
				t.Fatalf("Grow(%v, %d): error %d", l, k, e)
			}
			want := list()
			for i := -k; i <= k; i++ {
				moved, _ := Shift(l, i)
				want = Union(want, moved)
			}
			check(t, "Grow", grown, want)
			if back := Shrink(grown, k); !contained(l, back) {
				t.Errorf("Shrink(Grow(%v, %d)) = %v", l, k, back)
			}
			shrunk := Shrink(l, k)
			if again, e := Grow(shrunk, k); !contained(again, l) || e != api.OK {
				t.Errorf("Grow(Shrink(%v, %d)) = %v, %d", l, k, again, e)
			}
			for other := range uint(1) << span {
				m := listOf(other, -4)
				if contained(grown, m) != contained(l, Shrink(m, k)) {
					t.Errorf("Grow and Shrink by %d are not adjoint for %v and %v", k, l, m)
				}
			}
		}
	}
}

// Results are new memory.
func TestNewMemory(t *testing.T) {
	l := list(0, 5, 9, 12)
	norm, _ := Norm(l)
	shifted, _ := Shift(l, 0)
	grown, _ := Grow(l, 0)
	for _, result := range [][]api.Run{norm, shifted, grown, Shrink(l, 0), Union(l, nil), Union(nil, l), Intersect(l, l), Subtract(l, nil)} {
		check(t, "the result", result, list(0, 5, 9, 12))
		result[0] = api.Run{}
		check(t, "the list", l, list(0, 5, 9, 12))
	}
}
