package kin

import (
	"math"
	"math/rand"
	"testing"

	"additive/api"
)

// machine returns a valid machine whose axes have this ratio.
func machine(num, den int) api.Machine {
	m := api.Machine{Ticks: 1000}
	for i := range m.Axes {
		m.Axes[i] = api.Axis{Num: num, Den: den, Speed: 100, Accel: 1000, Jerk: 10, Min: -100 * i, Max: 1000 + i}
	}
	return m
}

func core(num, den int) api.Machine {
	m := machine(num, den)
	m.CoreXY = true
	return m
}

// P41.1.
func TestValid(t *testing.T) {
	for _, q := range []struct {
		name  string
		field func(*api.Axis) *int
		low   int
		high  int
	}{
		{"Num", func(a *api.Axis) *int { return &a.Num }, 2, 65536},
		{"Den", func(a *api.Axis) *int { return &a.Den }, 1, 5},
		{"Speed", func(a *api.Axis) *int { return &a.Speed }, 1, 1 << 20},
		{"Accel", func(a *api.Axis) *int { return &a.Accel }, 1, 1 << 24},
		{"Jerk", func(a *api.Axis) *int { return &a.Jerk }, 1, 1 << 20},
		{"Min", func(a *api.Axis) *int { return &a.Min }, -1 << 20, 1000},
		{"Max", func(a *api.Axis) *int { return &a.Max }, 0, 1 << 20},
	} {
		for axis := range api.Motors {
			for n, want := range map[int]bool{q.low: true, q.high: true, q.low - 1: false, q.high + 1: false, math.MinInt: false, math.MaxInt: false} {
				m := machine(5, 2)
				m.Axes[axis].Min, m.Axes[axis].Max = 0, 1000
				*q.field(&m.Axes[axis]) = n
				if Valid(m) != want {
					t.Errorf("%s = %d of axis %d: Valid = %v", q.name, n, axis, Valid(m))
				}
			}
		}
	}
	for ticks, want := range map[int]bool{1: true, 1 << 20: true, 0: false, -1: false, 1<<20 + 1: false, math.MaxInt: false} {
		m := machine(1, 1)
		m.Ticks = ticks
		if Valid(m) != want {
			t.Errorf("Ticks = %d: Valid = %v", ticks, Valid(m))
		}
	}
	same := machine(1, 1)
	same.Axes[2].Min, same.Axes[2].Max = 7, 7
	if !Valid(same) || !Valid(core(1, 1)) || Valid(api.Machine{}) {
		t.Errorf("Valid: %v, %v, %v", Valid(same), Valid(core(1, 1)), Valid(api.Machine{}))
	}
}

// P41.1.
func TestInside(t *testing.T) {
	m := machine(1, 1)
	for at, want := range map[api.Vec]bool{
		{}: true, {X: 1000, Y: 1001, Z: 1002}: true, {X: 0, Y: -100, Z: -200}: true, {X: -1}: false, {X: 1001}: false, {Y: 1002}: false, {Y: -101}: false, {Z: 1003}: false, {Z: -201}: false,
		{X: math.MinInt}: false, {Y: math.MaxInt}: false,
	} {
		if Inside(m, at) != want {
			t.Errorf("Inside(%v) = %v", at, !want)
		}
	}
	if m.Ticks = 0; Inside(m, api.Vec{}) {
		t.Error("a position is inside of a machine that is not valid")
	}
}

// P41.2, P41.3.
func TestStepsAndUnits(t *testing.T) {
	for _, q := range []struct{ num, den, pos, steps int }{
		{5, 2, 3, 8}, {5, 2, -3, -7}, {5, 2, 0, 0}, {1, 1, 1 << 30, 1 << 30}, {65536, 1, -1 << 30, -1 << 46}, {65536, 65535, 1 << 30, 1073758208}, {3, 2, 1, 2}, {3, 2, -1, -1},
	} {
		for axis := range api.Motors {
			if got, e := Steps(machine(q.num, q.den), axis, q.pos); got != q.steps || e != api.OK {
				t.Errorf("Steps of %d with %d / %d = %d, %d; want %d", q.pos, q.num, q.den, got, e, q.steps)
			}
			if got, e := Units(machine(q.num, q.den), axis, q.steps); got != q.pos || e != api.OK {
				t.Errorf("Units of %d with %d / %d = %d, %d; want %d", q.steps, q.num, q.den, got, e, q.pos)
			}
		}
	}
	for _, q := range []struct{ num, den, steps, units int }{{5, 2, 8, 3}, {2, 1, 1, 1}, {2, 1, -1, 0}, {4, 1, 1, 0}, {4, 1, 2, 1}, {65536, 65536, 1 << 46, 1 << 46}, {65536, 65536, -1 << 46, -1 << 46}} {
		if got, e := Units(machine(q.num, q.den), 0, q.steps); got != q.units || e != api.OK {
			t.Errorf("Units of %d with %d / %d = %d, %d; want %d", q.steps, q.num, q.den, got, e, q.units)
		}
	}
	for _, q := range []struct {
		m         api.Machine
		axis, pos int
	}{
		{api.Machine{}, 0, 0}, {machine(1, 1), -1, 0}, {machine(1, 1), 4, 0}, {machine(1, 1), math.MaxInt, 0}, {machine(1, 1), math.MinInt, 0}, {machine(1, 2), 0, 0},
		{machine(1, 1), 0, 1<<46 + 1}, {machine(1, 1), 0, -1<<46 - 1}, {machine(1, 1), 0, math.MaxInt}, {machine(1, 1), 0, math.MinInt},
	} {
		if got, e := Steps(q.m, q.axis, q.pos); got != 0 || e != api.ErrArg {
			t.Errorf("Steps of %d on axis %d = %d, %d", q.pos, q.axis, got, e)
		}
		if got, e := Units(q.m, q.axis, q.pos); got != 0 || e != api.ErrArg {
			t.Errorf("Units of %d on axis %d = %d, %d", q.pos, q.axis, got, e)
		}
	}
	for _, pos := range []int{1<<30 + 1, -1<<30 - 1} {
		if got, e := Steps(machine(1, 1), 0, pos); got != 0 || e != api.ErrArg {
			t.Errorf("Steps of %d = %d, %d", pos, got, e)
		}
	}
}

// P41.4, P41.5.
func TestMotorsAndPosition(t *testing.T) {
	different := machine(1, 1)
	for i := range different.Axes {
		different.Axes[i].Num = i + 1
	}
	for _, q := range []struct {
		m   api.Machine
		at  api.Vec
		e   int
		pos [api.Motors]int
	}{
		{core(1, 1), api.Vec{X: 3, Y: 1}, 5, [api.Motors]int{4, 2, 0, 5}},
		{machine(1, 1), api.Vec{X: 3, Y: 1}, 5, [api.Motors]int{3, 1, 0, 5}},
		{different, api.Vec{X: 10, Y: -10, Z: 10}, -10, [api.Motors]int{10, -20, 30, -40}},
		{core(5, 2), api.Vec{X: 3, Y: -3, Z: 3}, -3, [api.Motors]int{1, 15, 8, -7}},
		{core(65536, 1), api.Vec{X: 1 << 30, Y: 1 << 30, Z: -1 << 30}, 1 << 30, [api.Motors]int{1 << 47, 0, -1 << 46, 1 << 46}},
	} {
		if got, e := Motors(q.m, q.at, q.e); got != q.pos || e != api.OK {
			t.Errorf("Motors(%v, %d) = %v, %d; want %v", q.at, q.e, got, e, q.pos)
		}
		if at, ext, e := Position(q.m, q.pos); at != q.at || ext != q.e || e != api.OK {
			t.Errorf("Position(%v) = %v, %d, %d; want %v, %d", q.pos, at, ext, e, q.at, q.e)
		}
	}
	// The steps of X and Y are rounded down.
	if at, _, e := Position(core(1, 1), [api.Motors]int{4, 1}); at != (api.Vec{X: 2, Y: 1}) || e != api.OK {
		t.Errorf("Position = %v, %d", at, e)
	}
	if at, _, e := Position(core(1, 1), [api.Motors]int{-4, 1}); at != (api.Vec{X: -2, Y: -3}) || e != api.OK {
		t.Errorf("Position = %v, %d", at, e)
	}
}

// P41.4, P41.5: the errors.
func TestErrors(t *testing.T) {
	const far, most = 1<<30 + 1, 1 << 48
	for _, q := range []struct {
		m  api.Machine
		at api.Vec
		e  int
	}{
		{api.Machine{}, api.Vec{}, 0}, {machine(1, 1), api.Vec{X: far}, 0}, {machine(1, 1), api.Vec{Y: -far}, 0}, {machine(1, 1), api.Vec{Z: math.MaxInt}, 0}, {machine(1, 1), api.Vec{}, math.MinInt}, {core(1, 1), api.Vec{}, far},
	} {
		if got, e := Motors(q.m, q.at, q.e); got != [api.Motors]int{} || e != api.ErrArg {
			t.Errorf("Motors(%v, %d) = %v, %d", q.at, q.e, got, e)
		}
	}
	for _, q := range []struct {
		m   api.Machine
		pos [api.Motors]int
		ok  bool
	}{
		{api.Machine{}, [api.Motors]int{}, false}, {core(1, 1), [api.Motors]int{1 << 47, 0}, true}, {core(1, 1), [api.Motors]int{1<<47 + 1, 1}, false}, {core(1, 1), [api.Motors]int{1 << 46, -1 << 46}, true},
		{core(1, 1), [api.Motors]int{1<<46 + 2, -1 << 46}, false}, {core(1, 1), [api.Motors]int{most, -most}, false}, {core(1, 1), [api.Motors]int{most + 1, -most}, false},
		{machine(1, 1), [api.Motors]int{1 << 46, -1 << 46, 1 << 46, -1 << 46}, true}, {machine(1, 1), [api.Motors]int{1<<46 + 1}, false}, {machine(1, 1), [api.Motors]int{0, 0, 0, -1<<46 - 1}, false},
		{core(1, 1), [api.Motors]int{math.MaxInt, math.MaxInt}, false}, {core(1, 1), [api.Motors]int{math.MinInt, math.MinInt + 2}, false}, {machine(1, 1), [api.Motors]int{0, 0, math.MinInt}, false},
	} {
		at, ext, e := Position(q.m, q.pos)
		if (e == api.OK) != q.ok || !q.ok && (e != api.ErrArg || at != api.Vec{} || ext != 0) {
			t.Errorf("Position(%v) = %v, %d, %d", q.pos, at, ext, e)
		}
	}
}

// P41.2 to P41.5: the consequences.
func TestInverse(t *testing.T) {
	random := rand.New(rand.NewSource(41))
	for range 3000 {
		m := machine(1, 1)
		m.CoreXY = random.Intn(2) == 0
		for i := range m.Axes {
			m.Axes[i].Num = 1 + random.Intn(1<<random.Intn(17))
			m.Axes[i].Den = 1 + random.Intn(m.Axes[i].Num)
		}
		n := func() int { return random.Intn(1<<(1+random.Intn(31))) - 1<<30/(1+random.Intn(1<<30)) }
		at, ext := api.Vec{X: n() / 2, Y: n() / 2, Z: n() / 2}, n()/2
		pos, e := Motors(m, at, ext)
		if e != api.OK {
			t.Fatalf("Motors(%v, %d): error %d", at, ext, e)
		}
		if back, extBack, e := Position(m, pos); back != at || extBack != ext || e != api.OK {
			t.Errorf("Position(%v) = %v, %d, %d; want %v, %d", pos, back, extBack, e, at, ext)
		}
		axis := random.Intn(4)
		a := m.Axes[axis]
		steps, _ := Steps(m, axis, ext)
		// The nearest number of steps is at most half a step away, and of two it is the greater one.
		if rest := 2 * (ext*a.Num - steps*a.Den); rest < -a.Den || rest >= a.Den {
			t.Errorf("Steps of %d with %d / %d = %d", ext, a.Num, a.Den, steps)
		}
		units, _ := Units(m, axis, steps+1)
		if rest := 2 * ((steps+1)*a.Den - units*a.Num); rest < -a.Num || rest >= a.Num {
			t.Errorf("Units of %d with %d / %d = %d", steps+1, a.Num, a.Den, units)
		}
		if next, _ := Steps(m, axis, ext+1); next <= steps {
			t.Errorf("Steps of %d and %d are %d and %d", ext, ext+1, steps, next)
		}
	}
}
