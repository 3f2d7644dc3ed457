package ramp

import (
	"math"
	"math/rand"
	"testing"

	"additive/api"
)

// block returns a block with n steps.
func block(n, accel, entry, cruise, exit int) api.Block {
	return api.Block{Counts: [api.Motors]int{1, -n}, Accel: accel, Entry: entry, Cruise: cruise, Exit: exit}
}

// P45.1, P45.2, P45.3: the example.
func TestExample(t *testing.T) {
	b := block(4, 50, 0, 150, 0)
	for i, square := range []int{0, 100, 150, 150, 100, 0} {
		if got := Square(b, i); got != square {
			t.Errorf("Square of step %d = %d; want %d", i, got, square)
		}
		if got, want := Interval(b, i, 1000), []int{0, 100, 84, 84, 100, 0}[i]; got != want {
			t.Errorf("Interval of step %d = %d; want %d", i, got, want)
		}
	}
	if got, e := Duration(b, 1000); got != 368 || e != api.OK {
		t.Errorf("Duration = %d, %d", got, e)
	}
}

// P45.1, P45.2, P45.3: arguments that are not valid.
func TestInvalid(t *testing.T) {
	good := block(4, 50, 0, 150, 0)
	for _, i := range []int{-1, 5, math.MinInt, math.MaxInt} {
		if Square(good, i) != 0 || Interval(good, i, 1000) != 0 {
			t.Errorf("step %d has the square %d and the interval %d", i, Square(good, i), Interval(good, i, 1000))
		}
	}
	for _, b := range []api.Block{{}, block(4, 0, 0, 150, 0), block(4, 50, 151, 150, 0), block(4, 50, 0, 150, -1), block(api.MaxSteps+1, 50, 0, 150, 0), block(4, 50, 0, 0, 0)} {
		if Square(b, 1) != 0 || Interval(b, 1, 1000) != 0 {
			t.Errorf("%v has the square %d and the interval %d", b, Square(b, 1), Interval(b, 1, 1000))
		}
		if got, e := Duration(b, 1000); got != 0 || e != api.ErrArg {
			t.Errorf("Duration(%v) = %d, %d", b, got, e)
		}
	}
	for _, ticks := range []int{0, -1, api.MaxTicks + 1, math.MinInt, math.MaxInt} {
		if Interval(good, 1, ticks) != 0 {
			t.Errorf("Interval with %d ticks = %d", ticks, Interval(good, 1, ticks))
		}
		for _, b := range []api.Block{good, block(65537, 50, 0, 150, 0)} {
			if got, e := Duration(b, ticks); got != 0 || e != api.ErrArg {
				t.Errorf("Duration with %d ticks = %d, %d", ticks, got, e)
			}
		}
	}
	if got, e := Duration(block(65537, 50, 0, 150, 0), 1000); got != 0 || e != api.ErrLimit {
		t.Errorf("Duration of a long block = %d, %d", got, e)
	}
	if got, e := Duration(block(65536, 1, 0, 1, 0), api.MaxTicks); got != 65536*api.MaxTicks || e != api.OK {
		t.Errorf("Duration of a slow block = %d, %d", got, e)
	}
}

// P45.1, P45.2: the greatest numbers.
func TestGreatest(t *testing.T) {
	const fast = api.MaxSpeed * api.MaxSpeed
	b := block(api.MaxSteps, api.MaxAccel, fast, fast, fast)
	for _, i := range []int{1, api.MaxSteps / 2, api.MaxSteps} {
		if Square(b, i) != fast || Interval(b, i, api.MaxTicks) != 1 || Interval(b, i, 1) != 1 {
			t.Errorf("step %d has the square %d", i, Square(b, i))
		}
	}
	slow := block(api.MaxSteps, 1, 0, 1, 0)
	if Square(slow, 1) != 1 || Interval(slow, 1, api.MaxTicks) != api.MaxTicks {
		t.Errorf("the slowest step has the interval %d", Interval(slow, 1, api.MaxTicks))
	}
}

// P45.1 to P45.6.
func TestAnyBlock(t *testing.T) {
	random := rand.New(rand.NewSource(45))
	for range 2000 {
		n, accel, cruise := 1+random.Intn(60), 1+random.Intn(1<<random.Intn(12)), 1+random.Intn(1<<random.Intn(20))
		b := block(n, accel, random.Intn(cruise+1), cruise, random.Intn(cruise+1))
		ticks := 1 + random.Intn(1<<random.Intn(21))
		back := block(n, accel, b.Exit, cruise, b.Entry)
		slower := b
		slower.Cruise = max(b.Entry, b.Exit, 1) + random.Intn(cruise-max(b.Entry, b.Exit, 1)+1)
		sum, before := 0, b.Entry
		for i := 1; i <= n; i++ {
			square, interval := Square(b, i), Interval(b, i, ticks)
			want := min(cruise, b.Entry+2*accel*i, b.Exit+2*accel*(n+1-i))
			speed := int(math.Sqrt(float64(want)))
			if square != want || square < 1 || interval != (ticks+speed-1)/speed || interval < 1 || interval > ticks {
				t.Errorf("step %d of %v has the square %d and, with %d ticks, the interval %d", i, b, square, ticks, interval)
			}
			feasible := max(b.Exit-b.Entry, b.Entry-b.Exit) <= 2*accel*n
			if change := max(square-before, before-square); (feasible || i > 1) && change > 2*accel {
				t.Errorf("at step %d of %v the square jumps from %d to %d", i, b, before, square)
			}
			if Square(back, n+1-i) != square || Square(slower, i) > square || Interval(slower, i, ticks) < interval {
				t.Errorf("step %d of %v, reversed or slower, has the squares %d and %d", i, b, Square(back, n+1-i), Square(slower, i))
			}
			sum += interval
			before = square
		}
		if max(b.Exit-b.Entry, b.Entry-b.Exit) <= 2*accel*n && max(before-b.Exit, b.Exit-before) > 2*accel {
			t.Errorf("the last square of %v is %d", b, before)
		}
		got, e := Duration(b, ticks)
		reversed, _ := Duration(back, ticks)
		if got != sum || e != api.OK || reversed != sum {
			t.Errorf("Duration(%v, %d) = %d, %d, and reversed %d; want %d", b, ticks, got, e, reversed, sum)
		}
	}
}
