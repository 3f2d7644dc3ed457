package thermal

import (
	"math"
	"math/rand"
	"slices"
	"testing"

	"additive/api"
)

func heater(power, loss, mass, ambient int) api.Heater {
	return api.Heater{Power: power, Loss: loss, Mass: mass, Ambient: ambient}
}

// P48.1.
func TestValid(t *testing.T) {
	for h, want := range map[api.Heater]bool{
		heater(100, 2, 10, 20000): true, heater(0, 1, 1, 0): true, heater(1<<20, 65536, 65536, 400000): true, heater(1, 1, 1<<20, -400000): true,
		heater(-1, 2, 10, 0): false, heater(1<<20+1, 2, 10, 0): false, heater(1, 0, 10, 0): false, heater(1, 65537, 65537, 0): false, heater(1, 2, 1, 0): false, heater(1, 2, 1<<20+1, 0): false,
		heater(1, 2, 10, 400001): false, heater(1, 2, 10, -400001): false, {}: false, heater(math.MaxInt, math.MinInt, math.MaxInt, math.MinInt): false, heater(1, -3, -2, 0): false,
	} {
		if Valid(h) != want {
			t.Errorf("Valid(%v) = %v", h, !want)
		}
		if !want && (Step(h, 5, 5) != 0 || Top(h) != 0 || !slices.Equal(Run(h, 5, []int{1, 2}), []int{0, 0})) {
			t.Errorf("%v: Step %d, Top %d, Run %v", h, Step(h, 5, 5), Top(h), Run(h, 5, []int{1, 2}))
		}
	}
}

// P48.2, P48.3, P48.4.
func TestExamples(t *testing.T) {
	h := heater(100, 2, 10, 20000)
	for _, q := range []struct{ got, want int }{
		{Step(h, 20000, 255), 22550}, {Step(h, 22550, 0), 22040}, {Top(h), 32750}, {Step(h, 20000, 0), 20000}, {Step(h, 20001, 0), 20000}, {Step(h, 19999, 0), 19999}, {Step(h, 19995, 0), 19996},
		{Step(h, 20000, 256), 22550}, {Step(h, 20000, math.MaxInt), 22550}, {Step(h, 20000, -1), 20000}, {Step(h, 20000, math.MinInt), 20000}, {Step(h, 20000, 1), 20010},
		{Step(h, 1<<30, 0), 1<<30 - (1<<30-20000+4)/5}, {Step(h, math.MaxInt, 0), Step(h, 1<<30, 0)}, {Step(h, 1<<30+1, 7), Step(h, 1<<30, 7)}, {Step(h, math.MinInt, 0), Step(h, -1<<30, 0)}, {Step(h, -1<<30-1, 7), Step(h, -1<<30, 7)},
		{Top(heater(100, 3, 10, 0)), 8500}, {Top(heater(101, 3, 10, 0)), 8585}, {Top(heater(1, 2, 10, 0)), 128}, {Top(heater(0, 2, 10, -7)), -7}, {Top(heater(1, 65536, 65536, -400000)), -399999},
	} {
		if q.got != q.want {
			t.Errorf("%d; want %d", q.got, q.want)
		}
	}
	if got := Run(h, 20000, []int{255, 0}); !slices.Equal(got, []int{22550, 22040}) {
		t.Errorf("Run = %v", got)
	}
	if got := Run(h, 20000, nil); len(got) != 0 {
		t.Errorf("Run of no duties = %v", got)
	}
}

// P48.2, P48.3, P48.4, and the consequences.
func TestAnyHeater(t *testing.T) {
	random := rand.New(rand.NewSource(48))
	for range 2000 {
		h := heater(random.Intn(1<<random.Intn(21)), 1+random.Intn(1<<random.Intn(17)), 0, random.Intn(800001)-400000)
		h.Mass = h.Loss + random.Intn(1<<20-h.Loss+1)
		var duties []int
		for range 20 {
			duties = append(duties, random.Intn(300)-20)
		}
		top := Top(h)
		start := h.Ambient + random.Intn(top-h.Ambient+1)
		run := Run(h, start, duties)
		at := start
		for i, got := range run {
			duty := min(255, max(0, duties[i]))
			heat := duty*h.Power - h.Loss*(at-h.Ambient)
			want := at + int(math.Floor(float64(heat)/float64(h.Mass)))
			if got != want || got != Step(h, at, duties[i]) || got < h.Ambient || got > top {
				t.Errorf("Step(%v, %d, %d) = %d; want %d", h, at, duties[i], got, want)
			}
			if Step(h, at+1, duty) < got || Step(h, at, duty+1) < got {
				t.Errorf("Step(%v, %d, %d) = %d is not monotone", h, at, duty, got)
			}
			at = got
		}
		if len(run) != len(duties) {
			t.Errorf("Run has %d temperatures", len(run))
		}
		if exact := h.Loss * (top - h.Ambient); exact < 255*h.Power || exact >= 255*h.Power+h.Loss {
			t.Errorf("Top(%v) = %d", h, top)
		}
	}
}
