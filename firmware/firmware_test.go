package firmware

import (
	"math"
	"slices"
	"testing"

	"additive/api"
	"additive/pulse"
)

// machine returns a machine with one step per unit.
func machine() api.Machine {
	m := api.Machine{Ticks: 1000}
	for i := range m.Axes {
		m.Axes[i] = api.Axis{Num: 1, Den: 1, Speed: 1000, Accel: 100000, Jerk: 200, Min: 0, Max: 20000}
	}
	m.Axes[2].Speed = 500
	return m
}

func controls() [2]api.Control {
	c := api.Control{Kp: 10, Ki: 1, Scale: 1000, Limit: 255000}
	return [2]api.Control{c, c}
}

func guards() [2]api.Guard {
	return [2]api.Guard{
		{Low: 1000, High: 290000, Watch: 50, Rise: 500, Band: 10000, Idle: 5000},
		{Low: 1000, High: 120000, Watch: 100, Rise: 200, Band: 5000, Idle: 5000},
	}
}

func fresh() api.Firmware {
	f, e := New(machine(), controls(), guards(), 170000)
	if e != api.OK {
		panic("no firmware")
	}
	return f
}

// cmd returns a command; the words are given as bits, in their order, each with its number.
func cmd(code int, words ...int) api.Cmd {
	c := api.Cmd{Code: code}
	for i := 0; i < len(words); i += 2 {
		c.Has |= words[i]
		*map[int]*int{api.HasX: &c.X, api.HasY: &c.Y, api.HasZ: &c.Z, api.HasE: &c.E, api.HasF: &c.F, api.HasS: &c.S}[words[i]] = words[i+1]
	}
	return c
}

// do lets the firmware accept a command with the number of the next line.
func do(t *testing.T, f api.Firmware, c api.Cmd) api.Firmware {
	t.Helper()
	next, e := Accept(f, f.Line+1, c)
	if e != api.OK {
		t.Fatalf("Accept of %v in %v: error %d", c, f, e)
	}
	return next
}

// ticks lets so many ticks pass, in which the readings are the same.
func ticks(f api.Firmware, n int) api.Firmware {
	for range n {
		f, _, _ = Tick(f, [2]int{200000, 60000})
	}
	return f
}

func same(f, g api.Firmware) bool {
	if !slices.Equal(f.Queue, g.Queue) || !slices.Equal(f.Lines, g.Lines) {
		return false
	}
	f.Queue, f.Lines, g.Queue, g.Lines = nil, nil, nil, nil
	return f.Machine == g.Machine && f.Mode == g.Mode && f.Homed == g.Homed && f.Pos == g.Pos && f.At == g.At && f.E == g.E && f.Feed == g.Feed && f.Motion == g.Motion && f.Moving == g.Moving &&
		f.Active == g.Active && f.Back == g.Back && f.Return == g.Return && f.Dwell == g.Dwell && f.Waits == g.Waits && f.Heaters == g.Heaters && f.Guards == g.Guards && f.Fan == g.Fan && f.Line == g.Line &&
		f.Ticks == g.Ticks && f.Cold == g.Cold && f.Readings == g.Readings
}

// homed returns a firmware that is homed, warm and idle, and has accepted one line.
func homed(t *testing.T) api.Firmware {
	t.Helper()
	f := do(t, fresh(), cmd(api.CoHome))
	return ticks(f, 1)
}

// busy returns a firmware that moves: some steps of line 2 are made, and the lines 3 and 4 wait.
func busy(t *testing.T) api.Firmware {
	t.Helper()
	f := do(t, homed(t), cmd(api.CoTravel, api.HasX, 100))
	f = do(t, f, cmd(api.CoTravel, api.HasY, 50))
	f = do(t, f, cmd(api.CoPrint, api.HasX, 0, api.HasE, 40))
	f = ticks(f, 30)
	if !f.Moving || f.Active != 2 || len(f.Queue) != 2 || f.Pos[0] == 0 {
		t.Fatalf("the firmware is %v", f)
	}
	return f
}

// P53.1.
func TestNew(t *testing.T) {
	m, c, g := machine(), controls(), guards()
	f, e := New(m, c, g, 400000)
	if want := (api.Firmware{Machine: m, Mode: api.MoRun, Heaters: c, Guards: g, Cold: 400000}); !same(f, want) || e != api.OK || !Valid(f) {
		t.Errorf("New = %v, %d", f, e)
	}
	badMachine, badControls, badGuards, faulty := m, c, g, g
	badMachine.Ticks, badControls[1].Scale, badGuards[0].Watch, faulty[1].Fault = 0, 0, 0, api.FaHot
	badControl, badGuard, stopped := c, g, g
	badControl[0].Kp, badGuard[1].Idle, stopped[0].Fault = -1, 0, api.FaStop
	for i, q := range []struct {
		m    api.Machine
		c    [2]api.Control
		g    [2]api.Guard
		cold int
	}{{badMachine, c, g, 0}, {m, badControls, g, 0}, {m, c, badGuards, 0}, {m, c, faulty, 0}, {m, badControl, g, 0}, {m, c, badGuard, 0}, {m, c, stopped, 0}, {m, c, g, -1}, {m, c, g, 400001}, {api.Machine{}, [2]api.Control{}, [2]api.Guard{}, 0}} {
		if f, e := New(q.m, q.c, q.g, q.cold); e != api.ErrArg || !same(f, api.Firmware{}) {
			t.Errorf("case %d: New = %v, %d", i, f, e)
		}
	}
}

// P53.2: each number at the bounds of its range and beyond.
func TestValidNumbers(t *testing.T) {
	const far, count = 1 << 24, 1 << 40
	for _, q := range []struct {
		name      string
		field     func(*api.Firmware) *int
		low, high int
	}{
		{"Mode", func(f *api.Firmware) *int { return &f.Mode }, 1, 3}, {"At.X", func(f *api.Firmware) *int { return &f.At.X }, -far, far}, {"At.Y", func(f *api.Firmware) *int { return &f.At.Y }, -far, far}, {"At.Z", func(f *api.Firmware) *int { return &f.At.Z }, -far, far},
		{"E", func(f *api.Firmware) *int { return &f.E }, -far, far}, {"Feed", func(f *api.Firmware) *int { return &f.Feed }, 0, 1 << 20}, {"Dwell", func(f *api.Firmware) *int { return &f.Dwell }, 0, 1 << 20}, {"Waits", func(f *api.Firmware) *int { return &f.Waits }, 0, 3},
		{"Fan", func(f *api.Firmware) *int { return &f.Fan }, 0, 255}, {"Line", func(f *api.Firmware) *int { return &f.Line }, 0, count}, {"Ticks", func(f *api.Firmware) *int { return &f.Ticks }, 0, count}, {"Cold", func(f *api.Firmware) *int { return &f.Cold }, 0, 400000},
		{"Pos", func(f *api.Firmware) *int { return &f.Pos[3] }, -far, far}, {"Return", func(f *api.Firmware) *int { return &f.Return[0] }, -far, far}, {"Active", func(f *api.Firmware) *int { return &f.Active }, 0, 0}, {"Target", func(f *api.Firmware) *int { return &f.Heaters[1].Target }, 0, 400000},
		{"Count", func(f *api.Firmware) *int { return &f.Guards[1].Count }, 0, 100}, {"Machine", func(f *api.Firmware) *int { return &f.Machine.Ticks }, 1, 1 << 20}, {"Readings", func(f *api.Firmware) *int { return &f.Readings[1] }, math.MinInt, math.MaxInt},
	} {
		for n, want := range map[int]bool{q.low: true, q.high: true, q.low - 1: q.name == "Readings", q.high + 1: q.name == "Readings", math.MinInt: q.name == "Readings", math.MaxInt: q.name == "Readings"} {
			f := fresh()
			*q.field(&f) = n
			if Valid(f) != want || Idle(f) != (want && (q.name != "Dwell" || n == 0)) {
				t.Errorf("%s = %d: Valid = %v, Idle = %v", q.name, n, Valid(f), Idle(f))
			}
		}
	}
}

// P53.2: the motion, the queue, and the places that they lead to.
func TestValidMotions(t *testing.T) {
	for name, q := range map[string]struct {
		change func(*api.Firmware)
		want   bool
	}{
		"as it is":             {func(*api.Firmware) {}, true},
		"ended":                {func(f *api.Firmware) { f.Motion.Done, f.Motion.Wait = 100, 0 }, false},
		"long wait":            {func(f *api.Firmware) { f.Motion.Wait += 1000 }, false},
		"no wait":              {func(f *api.Firmware) { f.Motion.Wait = 0 }, false},
		"negative":             {func(f *api.Firmware) { f.Motion.Done = -1 }, false},
		"bad block":            {func(f *api.Firmware) { f.Motion.Block.Accel = 0 }, false},
		"not moving":           {func(f *api.Firmware) { f.Moving = false }, false},
		"no motion":            {func(f *api.Firmware) { f.Motion = api.Motion{} }, false},
		"nothing moving":       {func(f *api.Firmware) { f.Moving, f.Motion, f.Active = false, api.Motion{}, 0 }, true},
		"active without":       {func(f *api.Firmware) { f.Moving, f.Motion = false, api.Motion{} }, false},
		"bad queue":            {func(f *api.Firmware) { f.Queue[1].Cruise = 0 }, false},
		"high entry":           {func(f *api.Firmware) { f.Queue[1].Entry = f.Queue[1].Cruise + 1 }, false},
		"too few lines":        {func(f *api.Firmware) { f.Lines = f.Lines[:1] }, false},
		"negative line":        {func(f *api.Firmware) { f.Lines[1] = -1 }, false},
		"great line":           {func(f *api.Firmware) { f.Lines[1] = 1<<40 + 1 }, false},
		"any line":             {func(f *api.Firmware) { f.Lines[0], f.Lines[1] = 1<<40, 0 }, true},
		"great active":         {func(f *api.Firmware) { f.Active = 1<<40 + 1 }, false},
		"negative active":      {func(f *api.Firmware) { f.Active = -1 }, false},
		"returning":            {func(f *api.Firmware) { f.Active = 0 }, true},
		"not homed":            {func(f *api.Firmware) { f.Homed = false }, false},
		"moving, not homed":    {func(f *api.Firmware) { f.Homed, f.Queue, f.Lines = false, nil, nil }, false},
		"queue, not homed":     {func(f *api.Firmware) { f.Homed, f.Moving, f.Motion, f.Active = false, false, api.Motion{}, 0 }, false},
		"fault":                {func(f *api.Firmware) { f.Mode = api.MoFault }, false},
		"paused":               {func(f *api.Firmware) { f.Mode = api.MoPause }, true},
		"goal far":             {func(f *api.Firmware) { f.Queue[1].Counts[1] = 1<<24 - 50 }, true},
		"goal too far":         {func(f *api.Firmware) { f.Queue[1].Counts[1] = 1<<24 - 49 }, false},
		"too far between":      {func(f *api.Firmware) { f.Queue[0].Counts[1], f.Queue[1].Counts[1] = 1<<24, -50; f.Pos[1] = 1 }, false},
		"end of motion far":    {func(f *api.Firmware) { f.Pos[1], f.Queue = 1<<24-7, nil; f.Lines = nil; f.Motion.Block.Counts[1] = 100 }, false},
		"begin of motion far":  {func(f *api.Firmware) { f.Pos[1], f.Motion.Block.Counts[1] = -1<<24, 100 }, false},
		"begin of motion near": {func(f *api.Firmware) { f.Pos[1], f.Motion.Block.Counts[1] = -1<<24+90, 100 }, true},
		"position far":         {func(f *api.Firmware) { f.Pos[2] = 1<<24 + 1; f.Queue[0].Counts[2] = -5 }, false},
		"full queue":           {func(f *api.Firmware) { f.Queue, f.Lines = slices.Repeat(f.Queue[:1], 32), make([]int, 32) }, true},
		"too long queue":       {func(f *api.Firmware) { f.Queue, f.Lines = slices.Repeat(f.Queue[:1], 33), make([]int, 33) }, false},
	} {
		f := busy(t)
		q.change(&f)
		if Valid(f) != q.want {
			t.Errorf("%s: Valid = %v", name, Valid(f))
		}
		if !q.want && (Idle(f) || Goal(f) != position{}) {
			t.Errorf("%s: Idle = %v, Goal = %v", name, Idle(f), Goal(f))
		}
	}
}

// P53.2.
func TestIdleAndGoal(t *testing.T) {
	f := busy(t)
	if Idle(f) || Goal(f) != (position{0, 50, 0, 40}) {
		t.Errorf("Idle = %v, Goal = %v", Idle(f), Goal(f))
	}
	waiting := homed(t)
	if !Idle(waiting) || Goal(waiting) != (position{}) {
		t.Errorf("Idle = %v, Goal = %v", Idle(waiting), Goal(waiting))
	}
	waiting.Dwell = 1
	queued := do(t, homed(t), cmd(api.CoTravel, api.HasX, 7))
	if Idle(waiting) || Idle(queued) || Goal(queued) != (position{7}) {
		t.Errorf("Idle = %v, %v, Goal = %v", Idle(waiting), Idle(queued), Goal(queued))
	}
	moving, began := Begin(queued)
	if !began || Idle(moving) || Goal(moving) != (position{7}) {
		t.Errorf("Begin: Idle = %v, Goal = %v", Idle(moving), Goal(moving))
	}
}

// P53.4.
func TestBegin(t *testing.T) {
	f := do(t, homed(t), cmd(api.CoTravel, api.HasX, 100))
	f = do(t, f, cmd(api.CoTravel, api.HasY, 50))
	given := copied(f)
	got, began := Begin(f)
	want := copied(f)
	want.Motion, _ = pulse.Start(f.Queue[0], 1000)
	want.Moving, want.Active, want.Queue, want.Lines = true, 2, want.Queue[1:], want.Lines[1:]
	if !began || !same(got, want) || !same(f, given) {
		t.Errorf("Begin = %v, %v; want %v", got, began, want)
	}
	got.Queue[0].Accel = 77
	if !same(f, given) {
		t.Error("the result shares its queue")
	}
	paused, dwelling, broken := copied(f), copied(f), copied(f)
	paused.Mode, dwelling.Dwell, broken.Feed = api.MoPause, 1, -1
	if _, began := Begin(paused); !began {
		t.Error("nothing begins in a pause")
	}
	for name, f := range map[string]api.Firmware{"nothing to do": homed(t), "moving": busy(t), "dwelling": dwelling, "not valid": broken, "zero": {}} {
		if got, began := Begin(f); began || !same(got, f) {
			t.Errorf("%s: Begin = %v, %v", name, got, began)
		}
	}
}
