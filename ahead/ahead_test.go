package ahead

import (
	"math"
	"math/rand"
	"slices"
	"testing"

	"additive/api"
	"additive/dda"
)

// block returns a sound block with n steps.
func block(n, accel, cruise int) api.Block {
	return api.Block{Counts: [api.Motors]int{n, 1}, Accel: accel, Cruise: cruise}
}

// planned returns a block with these squares at its ends.
func planned(b api.Block, entry, exit int) api.Block {
	b.Entry, b.Exit = entry, exit
	return b
}

// P44.1.
func TestValid(t *testing.T) {
	const fast = api.MaxSpeed * api.MaxSpeed
	for _, q := range []struct {
		b    api.Block
		want bool
	}{
		{block(10, 5, 400), true}, {planned(block(10, 5, 400), 400, 0), true}, {planned(block(10, 5, 400), 0, 400), true}, {block(api.MaxSteps, api.MaxAccel, fast), true}, {block(1, 1, 1), true},
		{planned(block(10, 5, 400), 401, 0), false}, {planned(block(10, 5, 400), 0, 401), false}, {planned(block(10, 5, 400), -1, 0), false}, {planned(block(10, 5, 400), 0, -1), false},
		{block(10, 0, 400), false}, {block(10, api.MaxAccel+1, 400), false}, {block(10, 5, 0), false}, {block(10, 5, fast+1), false}, {block(api.MaxSteps+1, 5, 400), false},
		{api.Block{Accel: 5, Cruise: 400}, false}, {api.Block{}, false}, {block(10, math.MinInt, math.MaxInt), false}, {planned(block(10, 5, 400), math.MinInt, math.MaxInt), false},
	} {
		if got := Valid(q.b); got != q.want {
			t.Errorf("Valid(%v) = %v", q.b, got)
		}
	}
}

// P44.2.
func TestFeasible(t *testing.T) {
	b := block(10, 5, 400) // with the reach 100
	for i, q := range []struct {
		l     []api.Block
		caps  []int
		entry int
		want  bool
	}{
		{nil, nil, 7, true}, {nil, []int{0}, 0, false}, {[]api.Block{b}, nil, 0, false}, {[]api.Block{b}, []int{0, 0}, 0, false},
		{[]api.Block{b}, []int{-5}, 0, true}, {[]api.Block{b}, []int{0}, 1, false}, {[]api.Block{planned(b, 100, 0)}, []int{0}, 100, true}, {[]api.Block{planned(b, 101, 0)}, []int{0}, 101, false},
		{[]api.Block{planned(b, 0, 1)}, []int{0}, 0, false},
		{[]api.Block{planned(b, 0, 100), planned(b, 100, 0)}, []int{0, 100}, 0, true}, {[]api.Block{planned(b, 0, 100), planned(b, 100, 0)}, []int{0, 99}, 0, false},
		{[]api.Block{planned(b, 0, 101), planned(b, 101, 1), planned(b, 1, 0)}, []int{0, 999, 999}, 0, false}, {[]api.Block{planned(b, 10, 100), planned(b, 99, 0)}, []int{0, 999}, 10, false},
		{[]api.Block{planned(b, 10, 30), planned(b, 30, 0)}, []int{0, math.MaxInt}, 10, true}, {[]api.Block{b, b}, []int{0, -1}, 0, false}, {[]api.Block{b, b}, []int{math.MinInt, 0}, 0, true},
		{[]api.Block{b, block(10, 0, 400)}, []int{0, 0}, 0, false}, {[]api.Block{planned(b, -1, 0)}, []int{0}, -1, false},
	} {
		if got := Feasible(q.l, q.caps, q.entry); got != q.want {
			t.Errorf("case %d: Feasible(%v, %v, %d) = %v", i, q.l, q.caps, q.entry, got)
		}
	}
}

// P44.3.
func TestPlan(t *testing.T) {
	b := block(10, 5, 400)
	slow := block(10, 5, 50)
	for i, q := range []struct {
		l     []api.Block
		caps  []int
		entry int
		want  []int // the squares
		e     api.Errno
	}{
		{[]api.Block{b}, []int{0}, 0, []int{0, 0}, api.OK}, {[]api.Block{b}, []int{0}, 100, []int{100, 0}, api.OK}, {[]api.Block{b}, []int{0}, 101, nil, api.ErrRange},
		{[]api.Block{b, b}, []int{0, 1000}, 0, []int{0, 100, 0}, api.OK}, {[]api.Block{b, b}, []int{0, 30}, 0, []int{0, 30, 0}, api.OK}, {[]api.Block{b, b}, []int{0, 30}, 130, []int{130, 30, 0}, api.OK},
		{[]api.Block{b, b}, []int{0, 30}, 131, nil, api.ErrRange}, {[]api.Block{b, b}, []int{0, -1}, 0, nil, api.ErrRange}, {[]api.Block{b, b}, []int{0, math.MinInt}, 0, nil, api.ErrRange},
		{[]api.Block{b, b, b, b, b}, []int{0, 999, 999, 999, 999}, 0, []int{0, 100, 200, 200, 100, 0}, api.OK}, {[]api.Block{b, b, b, b, b}, []int{0, 999, 999, 20, 999}, 0, []int{0, 100, 120, 20, 100, 0}, api.OK},
		{[]api.Block{b, slow, b}, []int{0, 999, 999}, 40, []int{40, 50, 50, 0}, api.OK}, {[]api.Block{b, b, b}, []int{math.MinInt, math.MaxInt, math.MaxInt}, 300, []int{300, 200, 100, 0}, api.OK},
		{[]api.Block{b, b, b}, []int{0, 999, 999}, 301, nil, api.ErrRange}, {[]api.Block{slow}, []int{0}, 51, nil, api.ErrArg}, {[]api.Block{b}, []int{0}, -1, nil, api.ErrArg}, {[]api.Block{b}, []int{0}, 401, nil, api.ErrArg},
		{nil, nil, -99, nil, api.OK}, {nil, []int{1}, 0, nil, api.ErrArg}, {[]api.Block{b}, nil, 0, nil, api.ErrArg}, {[]api.Block{b, block(0, 0, 1)}, []int{0, -1}, 0, nil, api.ErrArg}, {[]api.Block{b}, []int{0, 0}, 999, nil, api.ErrArg},
		{[]api.Block{planned(b, -7, 9999)}, []int{0}, 0, []int{0, 0}, api.OK}, // what is entered does not matter
	} {
		given := slices.Clone(q.l)
		got, e := Plan(q.l, q.caps, q.entry)
		if e != q.e || len(got) != max(0, len(q.want)-1) || !slices.Equal(q.l, given) {
			t.Errorf("case %d: Plan(%v, %v, %d) = %v, %d; want %v, %d", i, q.l, q.caps, q.entry, got, e, q.want, q.e)
			continue
		}
		for k, p := range got {
			if p != planned(q.l[k], q.want[k], q.want[k+1]) {
				t.Errorf("case %d: block %d is %v; want %v", i, k, p, q.want)
			}
		}
		if e == api.OK && !Feasible(got, q.caps, q.entry) && len(got) > 0 {
			t.Errorf("case %d: %v is not feasible", i, got)
		}
	}
}

// search returns the greatest value of each square among all feasible choices; nothing if there is none.
func search(l []api.Block, caps []int, entry int) []int {
	var best []int
	var extend func(squares []int)
	extend = func(squares []int) {
		i := len(squares) - 1
		if i == len(l) {
			if squares[i] == 0 {
				for k, s := range squares {
					if len(best) < len(squares) {
						best = slices.Clone(squares)
					}
					best[k] = max(best[k], s)
				}
			}
			return
		}
		reach := 2 * l[i].Accel * dda.Dominant(l[i].Counts)
		for next := max(0, squares[i]-reach); next <= squares[i]+reach; next++ {
			if next <= l[i].Cruise && (i == len(l)-1 || next <= l[i+1].Cruise && next <= caps[i+1]) {
				extend(append(slices.Clone(squares), next))
			}
		}
	}
	extend([]int{entry})
	return best
}

// P44.2, P44.3: all choices for few steps.
func TestGreatestChoice(t *testing.T) {
	random := rand.New(rand.NewSource(44))
	none, several := 0, 0
	for range 400 {
		var l []api.Block
		var caps []int
		for range 1 + random.Intn(4) {
			l = append(l, planned(block(1+random.Intn(3), 1, 1+random.Intn(12)), random.Intn(9), random.Intn(9)))
			caps = append(caps, random.Intn(14)-1)
		}
		entry := random.Intn(l[0].Cruise + 1)
		want := search(l, caps, entry)
		got, e := Plan(l, caps, entry)
		if want == nil {
			none++
			if e != api.ErrRange || len(got) != 0 {
				t.Errorf("Plan(%v, %v, %d) = %v, %d; nothing is feasible", l, caps, entry, got, e)
			}
			continue
		}
		if len(l) > 2 {
			several++
		}
		if e != api.OK || !Feasible(got, caps, entry) {
			t.Fatalf("Plan(%v, %v, %d) = %v, %d; want %v", l, caps, entry, got, e, want)
		}
		for i, b := range got {
			if b != planned(l[i], want[i], want[i+1]) {
				t.Errorf("Plan(%v, %v, %d) = %v; want %v", l, caps, entry, got, want)
			}
			if worse := slices.Clone(got); i > 0 {
				worse[i].Entry, worse[i-1].Exit = want[i]+1, want[i]+1
				if Feasible(worse, caps, entry) {
					t.Errorf("%v is feasible, too", worse)
				}
			}
		}
	}
	if none < 30 || several < 50 {
		t.Errorf("%d times nothing is feasible, %d times several junctions are", none, several)
	}
}

// P44.3: the greatest numbers.
func TestGreatestNumbers(t *testing.T) {
	b := block(api.MaxSteps, api.MaxAccel, api.MaxSpeed*api.MaxSpeed)
	got, e := Plan([]api.Block{b, b}, []int{0, math.MaxInt}, b.Cruise)
	if e != api.OK || got[0] != planned(b, b.Cruise, b.Cruise) || got[1] != planned(b, b.Cruise, 0) {
		t.Errorf("Plan = %v, %d", got, e)
	}
}
