package limits

import (
	"math"
	"math/big"
	"math/rand"
	"testing"

	"additive/api"
	"additive/dda"
)

type counts = [api.Motors]int

// machine returns a valid machine whose motors have these limits.
func machine(speed, accel, jerk int) api.Machine {
	m := api.Machine{Ticks: 1000}
	for i := range m.Axes {
		m.Axes[i] = api.Axis{Num: 1, Den: 1, Speed: speed, Accel: accel, Jerk: jerk}
	}
	return m
}

// P43.1, P43.2, P43.3: the examples.
func TestExamples(t *testing.T) {
	m := machine(1000, 500, 10)
	slow := m
	slow.Axes[1].Speed, slow.Axes[1].Accel = 300, 100
	core := slow
	core.CoreXY = true
	for _, q := range []struct{ got, want int }{
		{Speed(m, counts{4, 2}, 0, 0), 1000}, {Speed(slow, counts{4, 2}, 0, 0), 600}, {Speed(core, counts{4, 2}, 0, 0), 600}, {Speed(slow, counts{4, -2}, 0, 0), 600},
		{Speed(m, counts{400}, 100, 50), 200}, {Speed(m, counts{400}, 100, 49), 196}, {Speed(m, counts{400}, 100, 300), 1000}, {Speed(m, counts{4}, 100, 1), 1}, {Speed(m, counts{4}, 0, 1), 1000}, {Speed(m, counts{4}, 1, 0), 1000},
		{Speed(m, counts{4}, -5, 1), 1000}, {Speed(m, counts{4}, 1, -5), 1000}, {Speed(m, counts{4}, math.MaxInt, math.MaxInt), 4}, {Speed(m, counts{4}, 1, math.MaxInt), 1000}, {Speed(m, counts{4}, math.MaxInt, 1), 1},
		{Speed(machine(1<<20, 1, 1), counts{1, 0}, 0, 0), 1 << 20}, {Speed(slow, counts{1, 1 << 20}, 0, 0), 300}, {Speed(slow, counts{1 << 20, 1}, 0, 0), 1000},
		{Accel(m, counts{4, 2}), 500}, {Accel(slow, counts{4, 2}), 200}, {Accel(slow, counts{4, -3}), 133}, {Accel(machine(1, 1<<24, 1), counts{3, 2, 1}), 1 << 24},
		{Junction(m, counts{1}, counts{0, 1}), 10}, {Junction(m, counts{1}, counts{-1}), 5}, {Junction(m, counts{2}, counts{2, 1}), 20}, {Junction(machine(9, 9, 1), counts{1}, counts{-1}), 0},
		{Junction(m, counts{3, 1}, counts{3, 1}), api.MaxSpeed}, {Junction(m, counts{3, 1}, counts{6, 2}), api.MaxSpeed}, {Junction(m, counts{3, 1}, counts{-6, -2}), 5},
	} {
		if q.got != q.want {
			t.Errorf("%d; want %d", q.got, q.want)
		}
	}
}

// P43.1, P43.2, P43.3: arguments that are not valid.
func TestInvalid(t *testing.T) {
	m := machine(1000, 500, 10)
	for _, c := range []counts{{}, {api.MaxSteps + 1}, {1, math.MinInt}} {
		if Speed(m, c, 1, 1) != 0 || Accel(m, c) != 0 || Junction(m, c, counts{1}) != 0 || Junction(m, counts{1}, c) != 0 {
			t.Errorf("%v: %d, %d, %d, %d", c, Speed(m, c, 1, 1), Accel(m, c), Junction(m, c, counts{1}), Junction(m, counts{1}, c))
		}
	}
	m.Axes[3].Jerk = 0
	if Speed(m, counts{1}, 1, 1) != 0 || Accel(m, counts{1}) != 0 || Junction(m, counts{1}, counts{1}) != 0 {
		t.Error("a machine that is not valid has limits")
	}
}

func randomCounts(random *rand.Rand) counts {
	for {
		var c counts
		for i := range c {
			if random.Intn(3) > 0 {
				c[i] = random.Intn(2<<random.Intn(24)) - 1<<random.Intn(24)
			}
		}
		if dda.Valid(c) {
			return c
		}
	}
}

// product multiplies exactly.
func product(l ...int) *big.Int {
	p := big.NewInt(1)
	for _, n := range l {
		p.Mul(p, big.NewInt(int64(n)))
	}
	return p
}

// allowed reports whether no motor exceeds its limit, at a speed of the dominant one.
func allowed(c counts, v int, limit func(motor int) int) bool {
	n := dda.Dominant(c)
	for motor, k := range c {
		if product(v, max(k, -k)).Cmp(product(limit(motor), n)) > 0 {
			return false
		}
	}
	return true
}

// smooth reports whether no motor's speed jumps by more than its jerk.
func smooth(m api.Machine, a, b counts, v int) bool {
	nA, nB := dda.Dominant(a), dda.Dominant(b)
	for motor := range a {
		jump := product(v, a[motor]*nB-b[motor]*nA)
		if jump.Abs(jump).Cmp(product(m.Axes[motor].Jerk, nA, nB)) > 0 {
			return false
		}
	}
	return true
}

// P43.1 to P43.5.
func TestAnyArguments(t *testing.T) {
	random := rand.New(rand.NewSource(43))
	for range 3000 {
		m := machine(1, 1, 1)
		for i := range m.Axes {
			m.Axes[i].Speed, m.Axes[i].Accel, m.Axes[i].Jerk = 1+random.Intn(1<<random.Intn(21)), 1+random.Intn(1<<random.Intn(25)), 1+random.Intn(1<<random.Intn(21))
		}
		a, b := randomCounts(random), randomCounts(random)
		n := dda.Dominant(a)
		speed, accel, junction := Speed(m, a, 0, 0), Accel(m, a), Junction(m, a, b)
		maxSpeed := func(motor int) int { return m.Axes[motor].Speed }
		maxAccel := func(motor int) int { return m.Axes[motor].Accel }
		if speed < 1 || !allowed(a, speed, maxSpeed) || speed < api.MaxSpeed && allowed(a, speed+1, maxSpeed) || speed > api.MaxSpeed {
			t.Errorf("Speed(%v, %v) = %d", m, a, speed)
		}
		if accel < 1 || !allowed(a, accel, maxAccel) || accel < api.MaxAccel && allowed(a, accel+1, maxAccel) || accel > api.MaxAccel {
			t.Errorf("Accel(%v, %v) = %d", m, a, accel)
		}
		if junction < 0 || !smooth(m, a, b, junction) || junction < api.MaxSpeed && smooth(m, a, b, junction+1) || junction > api.MaxSpeed || Junction(m, b, a) != junction {
			t.Errorf("Junction(%v, %v, %v) = %d", m, a, b, junction)
		}
		length, feed := 1+random.Intn(1<<random.Intn(30)), 1+random.Intn(1<<random.Intn(30))
		due := new(big.Int).Div(product(feed, n), product(length))
		want := speed
		if due.Cmp(product(speed)) < 0 {
			want = max(1, int(due.Int64()))
		}
		if got := Speed(m, a, length, feed); got != want {
			t.Errorf("Speed(%v, %v, %d, %d) = %d; want %d", m, a, length, feed, got, want)
		}
		k := 1 + random.Intn(api.MaxSteps/n)
		longer := counts{a[0] * k, a[1] * k, a[2] * k, a[3] * k}
		if Speed(m, longer, 0, 0) != speed || Accel(m, longer) != accel || Junction(m, longer, b) != junction || Junction(m, a, longer) != api.MaxSpeed {
			t.Errorf("the limits of %v and %v differ", a, longer)
		}
	}
}
