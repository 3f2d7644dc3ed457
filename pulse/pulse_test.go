package pulse

import (
	"math"
	"math/rand"
	"testing"

	"additive/api"
	"additive/dda"
	"additive/ramp"
)

type counts = [api.Motors]int

// P46.1, P46.2, P46.3: the example.
func TestExample(t *testing.T) {
	b := api.Block{Counts: counts{2, 1}, Accel: 50, Cruise: 100}
	m, e := Start(b, 100)
	if m != (api.Motion{Block: b, Wait: 10}) || e != api.OK || Ended(m) || Made(m) != (counts{}) {
		t.Fatalf("Start = %v, %d", m, e)
	}
	for tick := 1; tick <= 22; tick++ {
		var pulses counts
		m, pulses = Tick(m, 100)
		want := map[int]counts{10: {1, 1}, 20: {1}}[tick]
		made := counts{min(tick/10, 2), min(tick/10, 1)}
		if pulses != want || Made(m) != made || Ended(m) != (tick >= 20) {
			t.Errorf("tick %d: the pulses %v, made %v, ended %v", tick, pulses, Made(m), Ended(m))
		}
	}
	if m != (api.Motion{Block: b, Done: 2}) {
		t.Errorf("the motion ends as %v", m)
	}
}

// P46.1: blocks and ticks that are not valid.
func TestStartErrors(t *testing.T) {
	good := api.Block{Counts: counts{2, 1}, Accel: 50, Cruise: 100}
	slow, empty, high := good, good, good
	slow.Accel, empty.Counts, high.Entry = 0, counts{}, 101
	for _, q := range []struct {
		b     api.Block
		ticks int
		e     api.Errno
	}{
		{good, 1, api.OK}, {good, api.MaxTicks, api.OK}, {good, 0, api.ErrArg}, {good, -1, api.ErrArg}, {good, api.MaxTicks + 1, api.ErrArg}, {good, math.MinInt, api.ErrArg},
		{slow, 100, api.ErrArg}, {empty, 100, api.ErrArg}, {high, 100, api.ErrArg}, {api.Block{}, 100, api.ErrArg},
	} {
		if m, e := Start(q.b, q.ticks); e != q.e || e != api.OK && m != (api.Motion{}) {
			t.Errorf("Start(%v, %d) = %v, %d; want %d", q.b, q.ticks, m, e, q.e)
		}
	}
}

// P46.2, P46.3: motions that are not valid, or have ended.
func TestInvalidMotions(t *testing.T) {
	b := api.Block{Counts: counts{2, -1}, Accel: 50, Cruise: 100}
	high := b
	high.Exit = 101
	for _, q := range []struct {
		m     api.Motion
		ticks int
		made  counts
		ended bool
	}{
		{api.Motion{Block: b, Done: 2}, 100, counts{2, -1}, true}, {api.Motion{Block: b, Done: 2, Wait: 1}, 100, counts{2, -1}, true},
		{api.Motion{Block: b, Done: 1}, 100, counts{1, -1}, false}, {api.Motion{Block: b, Wait: 11}, 100, counts{}, false}, {api.Motion{Block: b, Wait: -1}, 100, counts{}, false},
		{api.Motion{Block: b, Done: 3, Wait: 1}, 100, counts{}, false}, {api.Motion{Block: b, Done: -1, Wait: 1}, 100, counts{}, false}, {api.Motion{Block: b, Done: math.MaxInt, Wait: 1}, 100, counts{}, false},
		{api.Motion{Block: b, Done: math.MinInt, Wait: 1}, 100, counts{}, false}, {api.Motion{Block: b, Done: 1, Wait: 1}, 0, counts{1, -1}, false}, {api.Motion{Block: b, Wait: 1}, api.MaxTicks + 1, counts{}, false},
		{api.Motion{Block: high, Done: 1, Wait: 1}, 100, counts{}, false}, {api.Motion{Block: high, Done: 2}, 100, counts{}, false}, {api.Motion{}, 100, counts{}, false}, {api.Motion{Block: b, Wait: math.MaxInt}, 100, counts{}, false},
	} {
		if m, pulses := Tick(q.m, q.ticks); m != q.m || pulses != (counts{}) {
			t.Errorf("Tick(%v, %d) = %v, %v", q.m, q.ticks, m, pulses)
		}
		if Made(q.m) != q.made || Ended(q.m) != q.ended {
			t.Errorf("%v: Made %v, Ended %v", q.m, Made(q.m), Ended(q.m))
		}
	}
}

// P46.2, P46.4: whole motions.
func TestAnyMotion(t *testing.T) {
	random := rand.New(rand.NewSource(46))
	for range 300 {
		var c counts
		for i := range c {
			c[i] = random.Intn(41) - 20
		}
		c[random.Intn(4)] = 1 + random.Intn(20)
		cruise := 1 + random.Intn(1<<random.Intn(16))
		b := api.Block{Counts: c, Accel: 1 + random.Intn(300), Entry: random.Intn(cruise + 1), Cruise: cruise, Exit: random.Intn(cruise + 1)}
		ticks := 1 + random.Intn(200)
		m, e := Start(b, ticks)
		duration, _ := ramp.Duration(b, ticks)
		if e != api.OK {
			t.Fatalf("Start(%v, %d): error %d", b, ticks, e)
		}
		var sum counts
		last := 0
		for tick := 1; tick <= duration; tick++ {
			if Ended(m) {
				t.Errorf("%v has ended before tick %d", m, tick)
			}
			before := m
			var pulses counts
			m, pulses = Tick(m, ticks)
			if m.Done == before.Done {
				if pulses != (counts{}) || m.Wait != before.Wait-1 {
					t.Errorf("Tick(%v, %d) = %v, %v", before, ticks, m, pulses)
				}
				continue
			}
			if m.Done != before.Done+1 || pulses != dda.Pulse(c, m.Done) || m.Wait != ramp.Interval(b, m.Done+1, ticks) || tick-last != ramp.Interval(b, m.Done, ticks) {
				t.Errorf("Tick(%v, %d) = %v, %v", before, ticks, m, pulses)
			}
			last = tick
			for i := range sum {
				sum[i] += pulses[i]
				if pulses[i] < -1 || pulses[i] > 1 {
					t.Errorf("the pulses %v", pulses)
				}
			}
			if Made(m) != sum {
				t.Errorf("%v has made %v; the pulses add up to %v", m, Made(m), sum)
			}
		}
		if !Ended(m) || sum != c || m.Wait != 0 {
			t.Errorf("after %d ticks %v has made %v", duration, m, sum)
		}
	}
}
