package dda

import (
	"math"
	"math/rand"
	"testing"

	"additive/api"
)

const most = api.MaxSteps

type counts = [api.Motors]int

// P42.1.
func TestValidAndDominant(t *testing.T) {
	for c, want := range map[counts]int{
		{4, -2, 0, 1}: 4, {1}: 1, {0, 0, 0, -1}: 1, {-3, 2, 1}: 3, {5, -5}: 5, {most, -most, most, -most}: most, {0, 0, -most}: most, {1, 2, 3, 4}: 4,
		{}: 0, {most + 1}: 0, {1, -most - 1}: 0, {1, 0, math.MaxInt}: 0, {1, 0, 0, math.MinInt}: 0,
	} {
		if got := Dominant(c); got != want || Valid(c) != (want > 0) {
			t.Errorf("%v: Dominant %d, Valid %v; want %d", c, got, Valid(c), want)
		}
	}
}

// P42.2, P42.3.
func TestExample(t *testing.T) {
	c := counts{4, -2, 0, 1}
	for i, want := range []counts{{}, {1, -1, 0, 0}, {2, -1, 0, 1}, {3, -2, 0, 1}, {4, -2, 0, 1}} {
		if got := At(c, i); got != want {
			t.Errorf("At(%v, %d) = %v; want %v", c, i, got, want)
		}
	}
	for i, want := range map[int]counts{0: {}, 1: {1, -1, 0, 0}, 2: {1, 0, 0, 1}, 3: {1, -1, 0, 0}, 4: {1, 0, 0, 0}, 5: {}, -1: {}, math.MaxInt: {}, math.MinInt: {}} {
		if got := Pulse(c, i); got != want {
			t.Errorf("Pulse(%v, %d) = %v; want %v", c, i, got, want)
		}
	}
	for _, i := range []int{0, -1, math.MinInt} {
		if At(c, i) != (counts{}) {
			t.Errorf("At(%v, %d) = %v", c, i, At(c, i))
		}
	}
	for _, i := range []int{4, 5, math.MaxInt} {
		if At(c, i) != c {
			t.Errorf("At(%v, %d) = %v", c, i, At(c, i))
		}
	}
	for _, bad := range []counts{{}, {most + 1}, {math.MinInt, 1}} {
		if At(bad, 1) != (counts{}) || Pulse(bad, 1) != (counts{}) {
			t.Errorf("%v: At %v, Pulse %v", bad, At(bad, 1), Pulse(bad, 1))
		}
	}
}

// P42.2 to P42.7.
func TestAnyCounts(t *testing.T) {
	random := rand.New(rand.NewSource(42))
	for range 300 {
		var c, opposite counts
		for i := range c {
			c[i] = random.Intn(2*(1<<random.Intn(8))) - 1<<random.Intn(8)
			opposite[i] = -c[i]
		}
		if !Valid(c) {
			continue
		}
		n := Dominant(c)
		var sum counts
		for i := 1; i <= n; i++ {
			pulse, back := Pulse(c, i), Pulse(opposite, i)
			for k, p := range pulse {
				size, sign := max(c[k], -c[k]), 1
				if c[k] < 0 {
					sign = -1
				}
				sum[k] += p
				if p != 0 && p != sign || size == n && p != sign || back[k] != -p {
					t.Errorf("Pulse(%v, %d) = %v", c, i, pulse)
				}
				if At(c, i)[k] != sum[k] || sum[k] != sign*((2*i*size+n)/(2*n)) {
					t.Errorf("At(%v, %d) = %v", c, i, At(c, i))
				}
				// The way that is due is i * c / n.
				if rest := 2 * (i*c[k] - sum[k]*n); rest > n || rest < -n {
					t.Errorf("At(%v, %d) = %v is not near", c, i, At(c, i))
				}
			}
		}
		if sum != c {
			t.Errorf("the pulses of %v add up to %v", c, sum)
		}
	}
}

// P42.2: the greatest counts.
func TestGreatestCounts(t *testing.T) {
	c := counts{most, -most, most - 1, 1}
	for i, want := range map[int]counts{most / 2: {most / 2, -most / 2, most / 2, 1}, most/2 - 1: {most/2 - 1, -most/2 + 1, most/2 - 1, 0}, most - 1: {most - 1, 1 - most, most - 2, 1}, most: c} {
		if got := At(c, i); got != want {
			t.Errorf("At(%v, %d) = %v; want %v", c, i, got, want)
		}
	}
}
