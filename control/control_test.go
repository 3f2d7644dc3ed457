package control

import (
	"math"
	"math/rand"
	"testing"

	"additive/api"
)

func good() api.Control {
	return api.Control{Target: 100, Kp: 2, Ki: 1, Scale: 4, Limit: 50}
}

// P49.1.
func TestValidAndAim(t *testing.T) {
	for _, q := range []struct {
		name      string
		field     func(*api.Control) *int
		low, high int
	}{
		{"Target", func(c *api.Control) *int { return &c.Target }, 0, 400000}, {"Kp", func(c *api.Control) *int { return &c.Kp }, 0, 1 << 20}, {"Ki", func(c *api.Control) *int { return &c.Ki }, 0, 1 << 20},
		{"Scale", func(c *api.Control) *int { return &c.Scale }, 1, 1 << 30}, {"Limit", func(c *api.Control) *int { return &c.Limit }, 0, 1 << 40}, {"Sum", func(c *api.Control) *int { return &c.Sum }, 0, 50},
	} {
		for n, want := range map[int]bool{q.low: true, q.high: true, q.low - 1: false, q.high + 1: false, math.MinInt: false, math.MaxInt: false} {
			c := good()
			*q.field(&c) = n
			if Valid(c) != want {
				t.Errorf("%s = %d: Valid = %v", q.name, n, Valid(c))
			}
			aimed, e := Aim(c, 7)
			expected := c
			expected.Target, expected.Sum = 7, 0
			if want && (aimed != expected || e != api.OK) || !want && (aimed != api.Control{} || e != api.ErrArg) {
				t.Errorf("%s = %d: Aim = %v, %d", q.name, n, aimed, e)
			}
			if stepped, duty := Step(c, 90); !want && (stepped != c || duty != 0) {
				t.Errorf("%s = %d: Step = %v, %d", q.name, n, stepped, duty)
			}
		}
	}
	if Valid(api.Control{}) {
		t.Error("the zero controller is valid")
	}
	for target, want := range map[int]api.Errno{0: api.OK, 400000: api.OK, -1: api.ErrArg, 400001: api.ErrArg, math.MinInt: api.ErrArg} {
		c := good()
		c.Sum = 50
		if got, e := Aim(c, target); e != want || e == api.OK && (got.Target != target || got.Sum != 0) || e != api.OK && got != (api.Control{}) {
			t.Errorf("Aim at %d = %v, %d", target, got, e)
		}
	}
}

// P49.2.
func TestStep(t *testing.T) {
	c, duty := Step(good(), 90)
	if c.Sum != 10 || duty != 7 {
		t.Errorf("Step = %v, %d", c, duty)
	}
	c, duty = Step(c, 110)
	if c != good() || duty != 0 {
		t.Errorf("the second Step = %v, %d", c, duty)
	}
	off, full := good(), good()
	off.Target, off.Sum, full.Sum = 0, 20, 50
	great := api.Control{Target: 400000, Kp: 1 << 20, Ki: 1 << 20, Scale: 1, Sum: 1 << 40, Limit: 1 << 40}
	for _, q := range []struct {
		c       api.Control
		reading int
		sum     int
		duty    int
	}{
		{off, 5, 0, 0}, {off, -1 << 30, 0, 0}, {off, 1<<30 + 1, 20, 0}, {full, 1<<30 + 1, 50, 0}, {full, -1<<30 - 1, 50, 0}, {full, math.MinInt, 50, 0}, {full, math.MaxInt, 50, 0},
		{full, 100, 50, 12}, {full, 99, 50, 13}, {full, 101, 49, 11}, {full, 125, 25, 0}, {full, 1 << 30, 0, 0}, {full, -1 << 30, 50, 255}, {full, -400, 50, 255}, {full, -384, 50, 254}, {full, -386, 50, 255},
		{great, 1 << 30, 0, 0}, {great, -1 << 30, 1 << 40, 255}, {great, 400000, 1 << 40, 255},
	} {
		got, duty := Step(q.c, q.reading)
		want := q.c
		want.Sum = q.sum
		if got != want || duty != q.duty {
			t.Errorf("Step(%v, %d) = %v, %d; want %d, %d", q.c, q.reading, got, duty, q.sum, q.duty)
		}
	}
}

// P49.2 to P49.5.
func TestAnyController(t *testing.T) {
	random := rand.New(rand.NewSource(49))
	heated := 0
	for range 5000 {
		c := api.Control{Target: random.Intn(400001), Kp: random.Intn(1 << random.Intn(21)), Ki: random.Intn(1 << random.Intn(21)), Scale: 1 + random.Intn(1<<random.Intn(31)), Limit: random.Intn(1 << random.Intn(41))}
		c.Sum = random.Intn(c.Limit + 1)
		if random.Intn(9) == 0 {
			c.Target = 0
		}
		reading := random.Intn(800001) - 200000
		got, duty := Step(c, reading)
		want := c
		want.Sum = max(0, min(c.Limit, c.Sum+c.Ki*(c.Target-reading)))
		due := min(255, max(0, int(math.Floor(float64(c.Kp*(c.Target-reading)+want.Sum)/float64(c.Scale)))))
		if c.Target == 0 {
			want.Sum, due = 0, 0
		}
		if got != want || duty != due || !Valid(got) {
			t.Errorf("Step(%v, %d) = %v, %d; want %v, %d", c, reading, got, duty, want, due)
		}
		if c.Kp*(reading-c.Target) > c.Limit && duty != 0 {
			t.Errorf("Step(%v, %d) has the duty %d", c, reading, duty)
		}
		if hotter, less := Step(c, reading+1+random.Intn(1000)); hotter.Sum > got.Sum || less > duty {
			t.Errorf("Step(%v, %d) = %d, %d, and hotter %d, %d", c, reading, got.Sum, duty, hotter.Sum, less)
		}
		if duty > 0 && duty < 255 {
			heated++
		}
	}
	if heated < 100 {
		t.Errorf("only %d duties are between the bounds", heated)
	}
}
