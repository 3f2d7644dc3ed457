package guard

import (
	"math"
	"math/rand"
	"testing"

	"additive/api"
)

const extremeReading = 1 << 30

func good() api.Guard {
	return api.Guard{Low: 5, High: 300, Watch: 3, Rise: 10, Band: 20, Base: 20, Idle: 100}
}

// with returns a guard that is changed.
func with(change func(*api.Guard)) api.Guard {
	g := good()
	change(&g)
	return g
}

// invalid returns guards that are not valid.
func invalid() []api.Guard {
	return []api.Guard{{}, with(func(g *api.Guard) { g.Low = 301 }), with(func(g *api.Guard) { g.Watch = 0 }), with(func(g *api.Guard) { g.Fault = 5 })}
}

// P50.1.
func TestValid(t *testing.T) {
	for _, q := range []struct {
		name      string
		field     func(*api.Guard) *int
		low, high int
	}{
		{"Low", func(g *api.Guard) *int { return &g.Low }, -extremeReading, 300}, {"High", func(g *api.Guard) *int { return &g.High }, 5, extremeReading},
		{"Base", func(g *api.Guard) *int { return &g.Base }, -extremeReading, extremeReading}, {"Watch", func(g *api.Guard) *int { return &g.Watch }, 1, 1 << 20},
		{"Idle", func(g *api.Guard) *int { return &g.Idle }, 1, 1 << 20}, {"Rise", func(g *api.Guard) *int { return &g.Rise }, 1, 400000}, {"Band", func(g *api.Guard) *int { return &g.Band }, 0, 400000},
		{"Count", func(g *api.Guard) *int { return &g.Count }, 0, 3}, {"Quiet", func(g *api.Guard) *int { return &g.Quiet }, 0, 100}, {"Fault", func(g *api.Guard) *int { return &g.Fault }, 0, 4},
	} {
		for n, want := range map[int]bool{q.low: true, q.high: true, q.low - 1: false, q.high + 1: false, math.MinInt: false, math.MaxInt: false} {
			g := with(func(g *api.Guard) { *q.field(g) = n })
			if Valid(g) != want {
				t.Errorf("%s = %d: Valid = %v", q.name, n, Valid(g))
			}
		}
	}
	if !Valid(with(func(g *api.Guard) { g.Door = true })) {
		t.Error("a guard with an open door is not valid")
	}
}

// P50.2, P50.3, P50.4: guards that are not valid.
func TestInvalid(t *testing.T) {
	for i, g := range invalid() {
		if got, duty := Step(g, 50, 200, 255); got != g || duty != 0 {
			t.Errorf("Step of invalid guard %d = %v, %d", i, got, duty)
		}
		if Touch(g) != g || Door(g, true) != g || Stop(g) != g {
			t.Errorf("invalid guard %d becomes %v, %v, %v", i, Touch(g), Door(g, true), Stop(g))
		}
		if got, e := Reset(g, 50); got != (api.Guard{}) || e != api.ErrArg {
			t.Errorf("Reset of invalid guard %d = %v, %d", i, got, e)
		}
	}
}

// P50.2: each case.
func TestStep(t *testing.T) {
	for i, q := range []struct {
		g                     api.Guard
		reading, target, duty int
		want                  func(*api.Guard)
		get                   int
	}{
		{with(func(g *api.Guard) { g.Fault = api.FaStop }), 50, 200, 255, func(g *api.Guard) { g.Fault = api.FaStop }, 0},
		{with(func(g *api.Guard) { g.Fault = api.FaHot }), 1, 200, 255, func(g *api.Guard) { g.Fault = api.FaHot }, 0},
		{good(), 4, 200, 255, func(g *api.Guard) { g.Fault = api.FaCold }, 0},
		{good(), math.MinInt, 200, 0, func(g *api.Guard) { g.Fault = api.FaCold }, 0},
		{good(), 301, 200, 255, func(g *api.Guard) { g.Fault = api.FaHot }, 0},
		{good(), math.MaxInt, 200, 255, func(g *api.Guard) { g.Fault = api.FaHot }, 0},
		{good(), 5, 20, 255, func(g *api.Guard) { g.Quiet, g.Base = 1, 5 }, 255},
		{good(), 300, 20, 255, func(g *api.Guard) { g.Quiet, g.Base = 1, 300 }, 255},
		{with(func(g *api.Guard) { g.Quiet, g.Count, g.Door = 99, 2, true }), 50, 200, 255, func(g *api.Guard) { g.Quiet, g.Base, g.Door = 100, 50, true }, 0},
		{with(func(g *api.Guard) { g.Quiet, g.Count = 100, 2 }), 50, 200, 255, func(g *api.Guard) { g.Quiet, g.Base = 100, 50 }, 0},
		{with(func(g *api.Guard) { g.Quiet = 98 }), 21, 200, 255, func(g *api.Guard) { g.Quiet, g.Count = 99, 1 }, 255},
		{with(func(g *api.Guard) { g.Count, g.Door = 2, true }), 50, 200, 255, func(g *api.Guard) { g.Quiet, g.Base, g.Door = 1, 50, true }, 0},
		{with(func(g *api.Guard) { g.Count = 2 }), 50, 200, 0, func(g *api.Guard) { g.Quiet, g.Base = 1, 50 }, 0},
		{with(func(g *api.Guard) { g.Count = 2 }), 50, 200, -7, func(g *api.Guard) { g.Quiet, g.Base = 1, 50 }, 0},
		{with(func(g *api.Guard) { g.Count = 2 }), 180, 200, 9, func(g *api.Guard) { g.Quiet, g.Base = 1, 180 }, 9},
		{with(func(g *api.Guard) { g.Count = 1 }), 179, 200, 9, func(g *api.Guard) { g.Quiet, g.Base, g.Count = 1, 179, 1 }, 9},
		{with(func(g *api.Guard) { g.Count = 1 }), 29, 200, 300, func(g *api.Guard) { g.Quiet, g.Count = 1, 2 }, 255},
		{with(func(g *api.Guard) { g.Count = 2 }), 29, 200, 9, func(g *api.Guard) { g.Quiet, g.Count, g.Fault = 1, 3, api.FaRunaway }, 0},
		{with(func(g *api.Guard) { g.Count = 2 }), 30, 200, 9, func(g *api.Guard) { g.Quiet, g.Base, g.Count = 1, 30, 1 }, 9},
		{with(func(g *api.Guard) { g.Watch = 1 }), 30, 200, 9, func(g *api.Guard) { g.Watch, g.Quiet, g.Base, g.Count, g.Fault = 1, 1, 30, 1, api.FaRunaway }, 0},
		{with(func(g *api.Guard) { g.Idle = 1 }), 30, 200, 9, func(g *api.Guard) { g.Idle, g.Quiet, g.Base = 1, 1, 30 }, 0},
		{good(), 50, math.MinInt, 9, func(g *api.Guard) { g.Quiet, g.Base = 1, 50 }, 9},
		{good(), 25, math.MaxInt, 9, func(g *api.Guard) { g.Quiet, g.Count = 1, 1 }, 9},
		{with(func(g *api.Guard) { g.High = extremeReading }), extremeReading - 20, math.MaxInt, 9, func(g *api.Guard) { g.High, g.Quiet, g.Base = extremeReading, 1, extremeReading-20 }, 9},
	} {
		got, duty := Step(q.g, q.reading, q.target, q.duty)
		if want := with(q.want); got != want || duty != q.get {
			t.Errorf("case %d: Step = %v, %d; want %v, %d", i, got, duty, want, q.get)
		}
	}
}

// P50.2: the examples.
func TestExamples(t *testing.T) {
	for _, q := range []struct {
		readings, duties []int
		fault            int
	}{
		{[]int{21, 22, 23}, []int{255, 255, 0}, api.FaRunaway}, {[]int{21, 35, 36}, []int{255, 255, 255}, 0}, {[]int{21, 35, 36, 37, 38}, []int{255, 255, 255, 0, 0}, api.FaRunaway},
	} {
		g := good()
		for i, reading := range q.readings {
			var duty int
			if g, duty = Step(g, reading, 200, 255); duty != q.duties[i] {
				t.Errorf("the readings %v: duty %d is %d", q.readings, i, duty)
			}
		}
		if g.Fault != q.fault {
			t.Errorf("the readings %v lead to the fault %d", q.readings, g.Fault)
		}
	}
}

// P50.3, P50.4.
func TestTouchDoorStopReset(t *testing.T) {
	g := with(func(g *api.Guard) { g.Quiet, g.Count, g.Fault = 7, 2, api.FaHot })
	if got, want := Touch(g), with(func(g *api.Guard) { g.Count, g.Fault = 2, api.FaHot }); got != want {
		t.Errorf("Touch = %v", got)
	}
	if got := Door(g, true); !got.Door || Door(got, false) != g || Door(g, false) != g {
		t.Errorf("Door = %v", got)
	}
	if got, want := Stop(g), with(func(g *api.Guard) { g.Quiet, g.Count, g.Fault = 7, 2, api.FaStop }); got != want || Stop(good()).Fault != api.FaStop {
		t.Errorf("Stop = %v", got)
	}
	for reading, want := range map[int]api.Errno{5: api.OK, 300: api.OK, 4: api.ErrFault, 301: api.ErrFault, math.MinInt: api.ErrFault, math.MaxInt: api.ErrFault} {
		got, e := Reset(g, reading)
		cleared := with(func(g *api.Guard) { g.Base = reading })
		if e != want || e == api.OK && got != cleared || e != api.OK && got != (api.Guard{}) {
			t.Errorf("Reset with the reading %d = %v, %d", reading, got, e)
		}
	}
	for _, reading := range []int{50, 4} {
		if got, e := Reset(good(), reading); got != (api.Guard{}) || e != api.ErrState {
			t.Errorf("Reset without a fault = %v, %d", got, e)
		}
	}
}

// P50.5, P50.6, P50.7: random ticks.
func TestAnyTicks(t *testing.T) {
	random := rand.New(rand.NewSource(50))
	faults := [5]int{}
	for range 300 {
		g := api.Guard{Low: 5 + random.Intn(45), High: 100 + random.Intn(200), Watch: 1 + random.Intn(6), Rise: 1 + random.Intn(5), Band: random.Intn(20), Base: 50, Idle: 1 + random.Intn(40)}
		reading, since, fault := 50, 0, false
		base, below := 50, 0 // the reading from which the rise is measured, and the ticks with a duty since then
		for range 100 {
			switch random.Intn(40) {
			case 0:
				g = Stop(g)
			case 1, 2:
				g, since = Touch(g), 0
			case 3:
				g = Door(g, random.Intn(3) == 0)
			case 4:
				if next, e := Reset(g, reading); e == api.OK {
					g, since, fault, base, below = next, 0, false, reading, 0
				}
			}
			fault = fault || g.Fault != 0
			reading = max(0, reading+random.Intn(9)-3)
			target, wanted := 50+random.Intn(200), random.Intn(300)-20
			since++
			var duty int
			g, duty = Step(g, reading, target, wanted)
			if !Valid(g) {
				t.Fatalf("Step leads to %v", g)
			}
			if duty != 0 && (fault || g.Fault != 0 || g.Door || since >= g.Idle || reading < g.Low || reading > g.High || duty > wanted || duty > 255) {
				t.Errorf("the duty is %d with %v, %d ticks after a command", duty, g, since)
			}
			if duty == 0 || reading >= target-g.Band || reading >= base+g.Rise {
				base, below = reading, 0
			}
			if duty > 0 && reading < target-g.Band {
				below++
			}
			if below >= g.Watch {
				t.Errorf("%d ticks with a duty below the band: %v", below, g)
			}
			faults[g.Fault]++
		}
	}
	for fault, n := range faults {
		if n < 50 {
			t.Errorf("only %d ticks with the fault %d", n, fault)
		}
	}
}
