package firmware

import (
	"math"
	"math/rand"
	"testing"

	"additive/ahead"
	"additive/api"
	"additive/control"
	"additive/guard"
	"additive/kin"
	"additive/limits"
	"additive/num"
	"additive/pulse"
	"additive/ramp"
)

// P53.5, P53.6: the examples.
func TestExamples(t *testing.T) {
	if _, e := Accept(fresh(), 1, cmd(api.CoPrint, api.HasX, 100)); e != api.ErrState {
		t.Errorf("a move before homing: error %d", e)
	}
	f := do(t, homed(t), cmd(api.CoPrint, api.HasX, 100))
	if Goal(f) != (position{100}) {
		t.Errorf("the goal is %v", Goal(f))
	}
	duration, _ := ramp.Duration(f.Queue[0], 1000)
	if f = ticks(f, duration-1); Idle(f) || !f.Moving {
		t.Error("idle too early")
	}
	if f = ticks(f, 1); !Idle(f) || f.Pos != (position{100}) || f.Active != 0 || f.Motion != (api.Motion{}) {
		t.Errorf("the firmware is %v", f)
	}
	f = do(t, fresh(), cmd(api.CoNozzle, api.HasS, 200000))
	f, pulses, duties := Tick(f, [2]int{20000, 20000})
	if duties[0] <= 0 || duties[1] != 0 || pulses != (position{}) {
		t.Errorf("Tick = %v, %v", pulses, duties)
	}
	f = do(t, f, cmd(api.CoStop))
	if f, _, duties = Tick(f, [2]int{20000, 20000}); duties != [2]int{} {
		t.Errorf("the duties are %v", duties)
	}
	if _, e := Accept(f, f.Line+1, cmd(api.CoPrint)); e != api.ErrFault {
		t.Errorf("a move in a fault: error %d", e)
	}
	if f = do(t, f, cmd(api.CoReset)); f.Mode != api.MoRun || f.Homed {
		t.Errorf("the firmware is %v", f)
	}
}

// P53.5: heaters and waits.
func TestHeat(t *testing.T) {
	f := changed(homed(t), func(f *api.Firmware) {
		f.Heaters[0].Target, f.Heaters[1].Target, f.Waits, f.Guards[0].Base, f.Guards[1].Base = 200000, 60000, 3, 20000, 20000
	})
	for _, readings := range [][2]int{{20000, 20000}, {189999, 54999}, {190000, 54999}, {189999, 55000}, {250000, 100000}} {
		got, pulses, duties := Tick(f, readings)
		want := changed(f, func(f *api.Firmware) { f.Readings = readings; f.Ticks++ })
		var due [2]int
		for i := range 2 {
			var wanted int
			want.Heaters[i], wanted = control.Step(f.Heaters[i], readings[i])
			want.Guards[i], due[i] = guard.Step(f.Guards[i], readings[i], f.Heaters[i].Target, wanted)
		}
		if readings[0] >= 190000 {
			want.Waits &^= 1
		}
		if readings[1] >= 55000 {
			want.Waits &^= 2
		}
		if !same(got, want) || duties != due || pulses != (position{}) {
			t.Errorf("Tick with %v = %v, %v; want %v, %v", readings, got, duties, want, due)
		}
	}
	late := changed(f, func(f *api.Firmware) { f.Ticks = 1 << 40 })
	if got, _, _ := Tick(late, [2]int{20000, 20000}); got.Ticks != 1<<40 {
		t.Errorf("the ticks are %d", got.Ticks)
	}
}

// P53.5: a fault loses the position, and switches both heaters off.
func TestFault(t *testing.T) {
	f := changed(busy(t), func(f *api.Firmware) { f.Heaters[0].Target, f.Heaters[1].Target, f.Dwell = 290000, 110000, 0 })
	for _, q := range []struct {
		readings [2]int
		faults   [2]int
	}{
		{[2]int{999, 60000}, [2]int{api.FaCold, 0}}, {[2]int{200000, 999}, [2]int{0, api.FaCold}}, {[2]int{290001, 60000}, [2]int{api.FaHot, 0}}, {[2]int{math.MaxInt, math.MinInt}, [2]int{api.FaHot, api.FaCold}},
	} {
		got, pulses, duties := Tick(f, q.readings)
		if got.Guards[0].Fault != q.faults[0] || got.Guards[1].Fault != q.faults[1] || pulses != (position{}) || duties != [2]int{} || !Valid(got) {
			t.Errorf("Tick with %v = %v, %v, %v", q.readings, got, pulses, duties)
		}
		if got.Mode != api.MoFault || got.Homed || !got.Back || got.Moving || got.Queue != nil || got.Line != 1 || got.Return != (position{}) || got.Pos != f.Pos || got.At != f.At {
			t.Errorf("Tick with %v leads to %v", q.readings, got)
		}
		// The fault stays, and nothing more is lost.
		again, _, duties := Tick(got, [2]int{200000, 60000})
		want := changed(got, func(f *api.Firmware) { f.Readings = [2]int{200000, 60000}; f.Ticks++ })
		for i := range 2 {
			var wanted int
			want.Heaters[i], wanted = control.Step(got.Heaters[i], want.Readings[i])
			want.Guards[i], _ = guard.Step(got.Guards[i], want.Readings[i], got.Heaters[i].Target, wanted)
		}
		if !same(again, want) || duties != [2]int{} {
			t.Errorf("the next Tick = %v, %v; want %v", again, duties, want)
		}
	}
}

// P53.5: dwelling, and firmwares that are not valid.
func TestDwell(t *testing.T) {
	f := do(t, homed(t), cmd(api.CoDwell, api.HasS, 3))
	for left := 2; left >= 0; left-- {
		if f = ticks(f, 1); f.Dwell != left || Idle(f) != (left == 0) {
			t.Errorf("Dwell is %d", f.Dwell)
		}
	}
	queued := changed(do(t, homed(t), cmd(api.CoTravel, api.HasX, 9)), func(f *api.Firmware) { f.Dwell = 1 })
	if queued = ticks(queued, 1); queued.Moving || queued.Dwell != 0 {
		t.Errorf("the firmware moves while it dwells: %v", queued)
	}
	if queued = ticks(queued, 1); !queued.Moving || queued.Motion.Wait != ramp.Interval(queued.Motion.Block, 1, 1000)-1 {
		t.Errorf("the firmware does not move: %v", queued)
	}
	for _, bad := range []api.Firmware{{}, changed(busy(t), func(f *api.Firmware) { f.Feed = -1 })} {
		got, pulses, duties := Tick(bad, [2]int{5, 5})
		if !same(got, bad) || pulses != (position{}) || duties != [2]int{} {
			t.Errorf("Tick(%v) = %v, %v, %v", bad, got, pulses, duties)
		}
	}
	f = busy(t)
	given := copied(f)
	got, _, _ := Tick(f, [2]int{200000, 60000})
	got.Queue[0].Accel = 7
	if !same(f, given) {
		t.Error("Tick shares the queue")
	}
}

// randomCommand returns a command of any kind, mostly a move.
func randomCommand(random *rand.Rand) api.Cmd {
	if random.Intn(4) > 0 {
		c := cmd([]int{api.CoTravel, api.CoPrint}[random.Intn(2)], api.HasX, random.Intn(60), api.HasF, 1+random.Intn(3000))
		if random.Intn(2) == 0 {
			c.Has, c.Y = c.Has|api.HasY, random.Intn(60)
		}
		if random.Intn(9) == 0 {
			c.Has, c.Z = c.Has|api.HasZ, random.Intn(20)
		}
		if c.Code == api.CoPrint {
			c.Has, c.E = c.Has|api.HasE, random.Intn(100)-20
		}
		return c
	}
	return []api.Cmd{
		cmd(api.CoHome), cmd(api.CoDwell, api.HasS, random.Intn(5)), cmd(api.CoPause), cmd(api.CoResume), cmd(api.CoNozzle, api.HasS, 200000), cmd(api.CoBedW, api.HasS, 60000), cmd(api.CoFan, api.HasS, 9),
		cmd(api.CoStop), cmd(api.CoReset), cmd(api.CoReset), cmd(api.CoReset), cmd(api.CoHome), cmd(api.CoHome),
	}[random.Intn(13)]
}

// P53.3 to P53.7: long random runs.
func TestAnyRun(t *testing.T) {
	random := rand.New(rand.NewSource(53))
	moved, began, faults := 0, 0, 0
	for run := range 40 {
		f := fresh()
		f.Machine.CoreXY = run%2 == 0
		f.Machine.Axes[0].Num, f.Machine.Axes[1].Num, f.Machine.Axes[3].Num, f.Machine.Axes[3].Den = 1+random.Intn(5), 1+random.Intn(5), 7, 3
		for range 600 {
			line := random.Intn(2) * (f.Line + 1)
			c := randomCommand(random)
			if next, e := Accept(f, line, c); e == api.OK {
				checkAccepted(t, f, next, line, c)
				f = next
				moved += min(1, len(next.Queue))
			} else if !same(next, api.Firmware{}) {
				t.Fatalf("an error with %v", next)
			}
			readings := [2]int{192000 + random.Intn(1000), 58000 + random.Intn(1000)}
			if random.Intn(300) == 0 {
				readings[0] = 0
			}
			for range random.Intn(30) {
				next, pulses, duties := Tick(f, readings)
				checkTick(t, f, next, pulses, duties)
				if next.Mode == api.MoFault && f.Mode != api.MoFault {
					faults++
				}
				if next.Moving && !f.Moving {
					began++
				}
				f = next
			}
		}
	}
	if moved < 1000 || began < 500 || faults < 10 {
		t.Errorf("only %d moves, %d blocks begun, %d faults", moved, began, faults)
	}
}

// checkAccepted checks what an accepted command has done.
func checkAccepted(t *testing.T, before, f api.Firmware, line int, c api.Cmd) {
	t.Helper()
	if !Valid(f) || f.Guards[0].Quiet != 0 || f.Guards[1].Quiet != 0 || c.Code != api.CoStop && f.Line != max(before.Line, line) {
		t.Fatalf("Accept of %v leads from %v to %v", c, before, f)
	}
	if c.Code == api.CoTravel || c.Code == api.CoPrint {
		if want, e := kin.Motors(f.Machine, f.At, f.E); e != api.OK || Goal(f) != want {
			t.Fatalf("after %v the goal is %v; want %v", c, Goal(f), want)
		}
	}
	entry := 0
	if f.Moving {
		entry = f.Motion.Block.Exit
	}
	caps := make([]int, len(f.Queue))
	for i, b := range f.Queue {
		speed := limits.Speed(f.Machine, b.Counts, 0, 0)
		if b.Cruise > speed*speed || b.Accel != limits.Accel(f.Machine, b.Counts) {
			t.Fatalf("the block %v is too fast", b)
		}
		if i > 0 {
			v := limits.Junction(f.Machine, f.Queue[i-1].Counts, b.Counts)
			caps[i] = v * v
		}
	}
	if len(f.Queue) > 0 && !ahead.Feasible(f.Queue, caps, f.Queue[0].Entry) || len(f.Queue) > 0 && f.Moving && f.Queue[0].Entry != entry {
		t.Fatalf("the plan %v is not feasible", f.Queue)
	}
}

// checkTick checks what a tick has done.
func checkTick(t *testing.T, before, f api.Firmware, pulses position, duties [2]int) {
	t.Helper()
	if !Valid(f) || f.Pos != plus(before.Pos, pulses) {
		t.Fatalf("Tick leads from %v to %v", before, f)
	}
	fault := f.Mode == api.MoFault
	if fault && (pulses != position{} || duties != [2]int{}) || !fault && Goal(f) != Goal(before) {
		t.Fatalf("Tick leads from %v to %v, with %v, %v", before, f, pulses, duties)
	}
	if fault {
		return
	}
	// The motion goes on as pulse says.
	motion := before.Motion
	if !before.Moving && len(before.Queue) > 0 && before.Dwell == 0 {
		motion, _ = pulse.Start(before.Queue[0], before.Machine.Ticks)
	}
	next, due := pulse.Tick(motion, before.Machine.Ticks)
	if pulse.Ended(next) {
		next = api.Motion{}
	}
	if f.Motion != next || pulses != due || f.Moving != (next != api.Motion{}) {
		t.Fatalf("the motion is %v; want %v", f.Motion, next)
	}
	if speed, _ := num.Isqrt(f.Motion.Block.Cruise); f.Moving && speed > limits.Speed(f.Machine, f.Motion.Block.Counts, 0, 0) {
		t.Fatalf("the motion %v is too fast", f.Motion)
	}
}
