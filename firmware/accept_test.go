package firmware

import (
	"math"
	"testing"

	"additive/ahead"
	"additive/api"
	"additive/limits"
)

// changed returns a copy of a firmware with a change.
func changed(f api.Firmware, change func(*api.Firmware)) api.Firmware {
	f = copied(f)
	change(&f)
	return f
}

// expect checks what Accept returns: an error and the zero firmware, or the firmware that is wanted.
func expect(t *testing.T, name string, f api.Firmware, line int, c api.Cmd, e api.Errno, change func(*api.Firmware)) {
	t.Helper()
	given := copied(f)
	got, wrong := Accept(f, line, c)
	want := api.Firmware{}
	if e == api.OK {
		want = changed(f, change)
		want.Guards[0].Quiet, want.Guards[1].Quiet = 0, 0
	}
	if wrong != e || !same(got, want) {
		t.Errorf("%s: Accept = %v, %d; want %v, %d", name, got, wrong, want, e)
	}
	if !same(f, given) {
		t.Errorf("%s: the firmware has been changed", name)
	}
}

// faulty returns a firmware with a fault of the nozzle's guard.
func faulty(t *testing.T) api.Firmware {
	f, _, _ := Tick(busy(t), [2]int{300000, 60000})
	if f.Mode != api.MoFault || f.Guards[0].Fault != api.FaHot {
		t.Fatalf("the firmware is %v", f)
	}
	return f
}

// P53.3, condition 1.
func TestWrongArguments(t *testing.T) {
	f := homed(t)
	late := changed(f, func(f *api.Firmware) { f.Line = 1 << 40 })
	for name, q := range map[string]struct {
		f    api.Firmware
		line int
		c    api.Cmd
		e    api.Errno
	}{
		"next line": {f, 2, cmd(api.CoFanOff), api.OK}, "operator": {f, 0, cmd(api.CoFanOff), api.OK}, "same line": {f, 1, cmd(api.CoFanOff), api.ErrArg}, "later line": {f, 3, cmd(api.CoFanOff), api.ErrArg}, "negative line": {f, -1, cmd(api.CoFanOff), api.ErrArg},
		"least line": {f, math.MinInt, cmd(api.CoStop), api.ErrArg}, "last line": {changed(late, func(f *api.Firmware) { f.Line-- }), 1 << 40, cmd(api.CoFanOff), api.OK}, "beyond": {late, 1<<40 + 1, cmd(api.CoFanOff), api.ErrArg}, "at the bound": {late, 0, cmd(api.CoFanOff), api.OK},
		"no command": {f, 2, api.Cmd{Code: 2}, api.ErrArg}, "wrong command": {f, 2, api.Cmd{Code: api.CoStop, S: 1}, api.ErrArg}, "not valid": {changed(f, func(f *api.Firmware) { f.Fan = 256 }), 2, cmd(api.CoFanOff), api.ErrArg}, "zero": {api.Firmware{}, 1, cmd(api.CoStop), api.ErrArg},
	} {
		expect(t, name, q.f, q.line, q.c, q.e, func(f *api.Firmware) {
			if q.line > 0 {
				f.Line = q.line
			}
		})
	}
}

// P53.3: the commands that change little.
func TestSimpleCommands(t *testing.T) {
	f := homed(t)
	aim := func(heater, target int) func(*api.Firmware) {
		return func(f *api.Firmware) { f.Line = 2; f.Heaters[heater].Target, f.Heaters[heater].Sum = target, 0 }
	}
	warm := changed(f, func(f *api.Firmware) {
		f.Heaters[0].Sum, f.Heaters[1].Sum = 5, 6
		f.Guards[0].Quiet, f.Guards[1].Quiet = 7, 8
	})
	expect(t, "M104", warm, 2, cmd(api.CoNozzle, api.HasS, 200000), api.OK, aim(0, 200000))
	expect(t, "M140", warm, 2, cmd(api.CoBed, api.HasS, 60000), api.OK, aim(1, 60000))
	expect(t, "M109", warm, 2, cmd(api.CoNozzleW, api.HasS, 9), api.OK, func(f *api.Firmware) { aim(0, 9)(f); f.Waits = 1 })
	expect(t, "M190", warm, 2, cmd(api.CoBedW, api.HasS, 0), api.OK, func(f *api.Firmware) { aim(1, 0)(f); f.Waits = 2 })
	expect(t, "M106", warm, 2, cmd(api.CoFan, api.HasS, 99), api.OK, func(f *api.Firmware) { f.Line, f.Fan = 2, 99 })
	fanned := changed(warm, func(f *api.Firmware) { f.Fan = 99 })
	expect(t, "M107", fanned, 2, cmd(api.CoFanOff), api.OK, func(f *api.Firmware) { f.Line, f.Fan = 2, 0 })
	expect(t, "G4", warm, 2, cmd(api.CoDwell, api.HasS, 30), api.OK, func(f *api.Firmware) { f.Line, f.Dwell = 2, 30 })
	expect(t, "G4 of the operator", warm, 0, cmd(api.CoDwell, api.HasS, 30), api.OK, func(f *api.Firmware) { f.Dwell = 30 })
	expect(t, "M25", warm, 2, cmd(api.CoPause), api.OK, func(f *api.Firmware) { f.Line, f.Mode = 2, api.MoPause })
	expect(t, "M24", warm, 2, cmd(api.CoResume), api.ErrState, nil)
	paused := changed(warm, func(f *api.Firmware) { f.Mode = api.MoPause })
	expect(t, "M24 in a pause", paused, 2, cmd(api.CoResume), api.OK, func(f *api.Firmware) { f.Line, f.Mode = 2, api.MoRun })
	expect(t, "M25 in a pause", paused, 2, cmd(api.CoPause), api.ErrState, nil)
	expect(t, "M999", warm, 2, cmd(api.CoReset), api.ErrState, nil)
	expect(t, "M106 while moving", busy(t), 5, cmd(api.CoFan, api.HasS, 1), api.OK, func(f *api.Firmware) { f.Line, f.Fan = 5, 1 })
	moving := busy(t)
	shared := do(t, moving, cmd(api.CoFanOff))
	if shared.Queue[0].Accel, shared.Lines[0] = 7, 7; moving.Queue[0].Accel == 7 || moving.Lines[0] == 7 {
		t.Error("Accept shares the queue")
	}
	expect(t, "G4 while moving", busy(t), 5, cmd(api.CoDwell, api.HasS, 1), api.ErrFull, nil)
	expect(t, "G28 while moving", busy(t), 5, cmd(api.CoHome), api.ErrFull, nil)
	queued := do(t, f, cmd(api.CoTravel, api.HasX, 1))
	expect(t, "G4 with a queue", queued, 3, cmd(api.CoDwell, api.HasS, 0), api.ErrFull, nil)
	expect(t, "G28 with a queue in a pause", changed(queued, func(f *api.Firmware) { f.Mode = api.MoPause }), 3, cmd(api.CoHome), api.ErrFull, nil)
	expect(t, "G28 in a pause", paused, 2, cmd(api.CoHome), api.ErrState, nil)
	expect(t, "G4 in a pause", paused, 2, cmd(api.CoDwell, api.HasS, 1), api.OK, func(f *api.Firmware) { f.Line, f.Dwell = 2, 1 })
}

// P53.3, conditions 4 to 6: what is refused in a fault, and while the firmware waits or dwells.
func TestRefused(t *testing.T) {
	f := homed(t)
	states := map[string]api.Firmware{
		"waiting for the nozzle": changed(f, func(f *api.Firmware) { f.Waits = 1 }), "waiting for the bed": changed(f, func(f *api.Firmware) { f.Waits = 2 }), "dwelling": changed(f, func(f *api.Firmware) { f.Dwell = 1 }),
	}
	ordinary := []api.Cmd{
		cmd(api.CoTravel, api.HasX, 5), cmd(api.CoPrint, api.HasX, -5), cmd(api.CoDwell, api.HasS, 0), cmd(api.CoHome), cmd(api.CoNozzle, api.HasS, 0), cmd(api.CoNozzleW, api.HasS, 0),
		cmd(api.CoBed, api.HasS, 0), cmd(api.CoBedW, api.HasS, 0), cmd(api.CoFan, api.HasS, 0), cmd(api.CoFanOff),
	}
	for _, c := range ordinary {
		for name, f := range states {
			expect(t, name, f, 2, c, api.ErrFull, nil)
			expect(t, name+", operator", f, 0, c, api.ErrFull, nil)
		}
		bad := faulty(t)
		expect(t, "fault", bad, bad.Line+1, c, api.ErrFault, nil)
		expect(t, "fault, waiting", changed(bad, func(f *api.Firmware) { f.Waits = 1 }), bad.Line+1, c, api.ErrFault, nil)
	}
	bad := faulty(t)
	expect(t, "M25 in a fault", bad, bad.Line+1, cmd(api.CoPause), api.ErrFault, nil)
	expect(t, "M24 in a fault", bad, bad.Line+1, cmd(api.CoResume), api.ErrFault, nil)
	for name, f := range states {
		expect(t, name+", M25", f, 2, cmd(api.CoPause), api.OK, func(f *api.Firmware) { f.Line, f.Mode = 2, api.MoPause })
	}
}

// P53.3, condition 2, and to lose the position.
func TestStop(t *testing.T) {
	stopped := func(line int, place position, back bool) func(*api.Firmware) {
		return func(f *api.Firmware) {
			f.Line, f.Return, f.Back, f.Mode, f.Homed, f.Moving, f.Active, f.Motion = line, place, back, api.MoFault, false, false, 0, api.Motion{}
			f.Queue, f.Lines, f.Dwell, f.Waits = nil, nil, 0, 0
			f.Guards[0].Fault, f.Guards[1].Fault = api.FaStop, api.FaStop
		}
	}
	f := busy(t)
	began := position{0, 0, 0, 0}
	expect(t, "moving", f, 0, cmd(api.CoStop), api.OK, stopped(1, began, true))
	expect(t, "moving, with a number", f, 5, cmd(api.CoStop), api.OK, stopped(1, began, true))
	later := ticks(f, 100)
	if later.Active != 3 || later.Pos[1] == 0 {
		t.Fatalf("the firmware is %v", later)
	}
	expect(t, "moving later", later, 5, cmd(api.CoStop), api.OK, stopped(2, position{100}, true))
	expect(t, "idle", homed(t), 2, cmd(api.CoStop), api.OK, stopped(2, position{}, true))
	expect(t, "idle, operator", homed(t), 0, cmd(api.CoStop), api.OK, stopped(1, position{}, true))
	queued := changed(do(t, homed(t), cmd(api.CoTravel, api.HasX, 9)), func(f *api.Firmware) { f.Pos[1], f.Dwell = 77, 5 })
	expect(t, "queue", queued, 3, cmd(api.CoStop), api.OK, stopped(1, position{0, 77}, true))
	expect(t, "never homed", fresh(), 0, cmd(api.CoStop), api.OK, stopped(0, position{}, false))
	unknown := changed(fresh(), func(f *api.Firmware) {
		f.Return, f.Back, f.Pos, f.Waits = position{5, 6, 7, 8}, true, position{1, 2, 3, 4}, 3
	})
	expect(t, "not homed", unknown, 1, cmd(api.CoStop), api.OK, stopped(1, position{5, 6, 7, 8}, true))
	returning := changed(f, func(f *api.Firmware) { f.Active, f.Lines, f.Return, f.Line = 0, []int{0, 7}, position{9, 9, 9, 9}, 8 })
	expect(t, "returning", returning, 9, cmd(api.CoStop), api.OK, stopped(6, position{9, 9, 9, 9}, true))
	alone := changed(f, func(f *api.Firmware) { f.Active, f.Return = 0, position{9, 9, 9, 9} })
	expect(t, "returning before a line", alone, 0, cmd(api.CoStop), api.OK, stopped(2, position{9, 9, 9, 9}, true))
	first := changed(f, func(f *api.Firmware) { f.Active, f.Lines = 1, []int{2, 3} })
	expect(t, "moving in line 1", first, 0, cmd(api.CoStop), api.OK, stopped(0, began, true))
	waiting := changed(queued, func(f *api.Firmware) { f.Lines, f.Pos = []int{1}, position{} })
	expect(t, "line 1 waits", waiting, 0, cmd(api.CoStop), api.OK, stopped(0, position{}, true))
	about := changed(queued, func(f *api.Firmware) { f.Lines, f.Return, f.Line = []int{0}, position{9, 9, 9, 9}, 8 })
	expect(t, "about to return", about, 0, cmd(api.CoStop), api.OK, stopped(8, position{9, 9, 9, 9}, true))
	expect(t, "in a fault", faulty(t), 0, cmd(api.CoStop), api.OK, func(f *api.Firmware) { f.Guards[0].Fault, f.Guards[1].Fault = api.FaStop, api.FaStop })
}

// P53.3, condition 3.
func TestReset(t *testing.T) {
	f := faulty(t)
	expect(t, "still hot", f, f.Line+1, cmd(api.CoReset), api.ErrFault, nil)
	cool := changed(f, func(f *api.Firmware) { f.Readings = [2]int{20000, 999}; f.Guards[1].Count = 3 })
	expect(t, "cool again", cool, f.Line+1, cmd(api.CoReset), api.OK, func(f *api.Firmware) {
		f.Line++
		f.Mode, f.Guards[0].Fault, f.Guards[0].Base, f.Guards[0].Count = api.MoRun, 0, 20000, 0
	})
	both := changed(cool, func(f *api.Firmware) { f.Guards[1].Fault = api.FaStop })
	expect(t, "the other one is cold", both, 0, cmd(api.CoReset), api.ErrFault, nil)
	bed := changed(both, func(f *api.Firmware) { f.Guards[0].Fault, f.Readings[1] = 0, 30000 })
	expect(t, "only the other one", bed, 0, cmd(api.CoReset), api.OK, func(f *api.Firmware) {
		f.Mode, f.Guards[1].Fault, f.Guards[1].Base, f.Guards[1].Count = api.MoRun, 0, 30000, 0
	})
	none := changed(cool, func(f *api.Firmware) { f.Guards[0].Fault = 0; f.Readings[0] = 0 })
	expect(t, "no guard with a fault", none, 0, cmd(api.CoReset), api.OK, func(f *api.Firmware) { f.Mode = api.MoRun })
}

// P53.3, condition 7: the errors, in their order.
func TestMoveErrors(t *testing.T) {
	f := homed(t)
	core := changed(f, func(f *api.Firmware) { f.Machine.CoreXY = true })
	cold := changed(f, func(f *api.Firmware) { f.Readings[0] = 169999 })
	fine := changed(f, func(f *api.Firmware) {
		for i := range f.Machine.Axes {
			f.Machine.Axes[i].Num = 1000
		}
	})
	full := f
	for i := range api.MaxBlocks {
		full = do(t, full, cmd(api.CoTravel, api.HasX, 10*(i%2+1)))
	}
	for name, q := range map[string]struct {
		f    api.Firmware
		line int
		c    api.Cmd
		e    api.Errno
	}{
		"operator": {f, 0, cmd(api.CoTravel, api.HasX, 5), api.ErrState}, "not homed": {fresh(), 1, cmd(api.CoTravel, api.HasX, 30000), api.ErrState}, "has to return": {changed(f, func(f *api.Firmware) { f.Back = true }), 2, cmd(api.CoTravel), api.ErrState},
		"paused":  {changed(f, func(f *api.Firmware) { f.Mode = api.MoPause }), 2, cmd(api.CoPrint, api.HasX, 30000), api.ErrState},
		"outside": {f, 2, cmd(api.CoTravel, api.HasX, 20001), api.ErrRange}, "below": {f, 2, cmd(api.CoTravel, api.HasZ, -1), api.ErrRange}, "far": {f, 2, cmd(api.CoTravel, api.HasY, 1<<30), api.ErrRange}, "outside and cold": {cold, 2, cmd(api.CoPrint, api.HasX, 20001, api.HasE, 1), api.ErrRange},
		"cold": {cold, 2, cmd(api.CoPrint, api.HasX, 5, api.HasE, 1), api.ErrCold}, "cold, and too far": {cold, 2, cmd(api.CoPrint, api.HasE, 1<<30), api.ErrCold}, "too far": {f, 2, cmd(api.CoPrint, api.HasE, 1<<24+1), api.ErrLimit}, "too far back": {cold, 2, cmd(api.CoPrint, api.HasE, -1<<30), api.ErrLimit},
		"fine": {fine, 2, cmd(api.CoTravel, api.HasX, 16778), api.ErrLimit}, "sum too far": {changed(core, func(f *api.Firmware) { f.Machine.Axes[0].Num, f.Machine.Axes[1].Num = 500, 500 }), 2, cmd(api.CoTravel, api.HasX, 20000, api.HasY, 20000), api.ErrLimit},
		"difference too far": {changed(f, func(f *api.Firmware) { f.Pos[3] = 1 << 23 }), 2, cmd(api.CoPrint, api.HasE, -1<<23-1), api.ErrLimit},
		"target too far":     {changed(f, func(f *api.Firmware) { f.Pos[3] = 1<<24 - 10 }), 2, cmd(api.CoPrint, api.HasE, 1<<24+5), api.ErrLimit},
		"full":               {full, full.Line + 1, cmd(api.CoTravel, api.HasX, 1), api.ErrFull}, "full, and outside": {full, full.Line + 1, cmd(api.CoTravel, api.HasX, -1), api.ErrRange}, "full, and too far": {full, full.Line + 1, cmd(api.CoPrint, api.HasE, 1<<30), api.ErrLimit},
	} {
		expect(t, name, q.f, q.line, q.c, q.e, nil)
	}
	expect(t, "full, but nothing to do", full, full.Line+1, cmd(api.CoTravel, api.HasF, 7), api.OK, func(f *api.Firmware) { f.Line++; f.Feed = 7 })
	expect(t, "cold, but backward", changed(cold, func(f *api.Firmware) { f.E = 5 }), 2, cmd(api.CoPrint, api.HasE, 0), api.OK, func(f *api.Firmware) { f.Line, f.E = 2, 0 })
	expect(t, "cold, but without extrusion", cold, 2, cmd(api.CoPrint, api.HasE, 0), api.OK, func(f *api.Firmware) { f.Line = 2 })
	warm := changed(f, func(f *api.Firmware) { f.Readings[0] = 170000 })
	if got, e := Accept(warm, 2, cmd(api.CoPrint, api.HasE, 1)); e != api.OK || len(got.Queue) != 1 {
		t.Errorf("warm enough: error %d", e)
	}
	expect(t, "at the limit", changed(f, func(f *api.Firmware) { f.Pos[3] = 1 << 23 }), 2, cmd(api.CoPrint, api.HasE, -1<<23, api.HasF, 3), api.OK, func(f *api.Firmware) {
		f.Line, f.E, f.Feed, f.Lines = 2, -1<<23, 3, []int{2}
		f.Queue = []api.Block{{Counts: position{3: -1 << 24}, Accel: 100000, Cruise: 36}} // of 8388608 units and 16777216 steps
	})
}

// P53.3, condition 7: blocks, and their plan.
func TestMove(t *testing.T) {
	f := changed(homed(t), func(f *api.Firmware) { f.Machine.Axes[0].Num, f.Machine.Axes[3].Num, f.Machine.Axes[3].Den = 2, 5, 2 })
	m := f.Machine
	var queue []api.Block
	var lines []int
	add := func(counts position, length, feed int) {
		speed := limits.Speed(m, counts, length, feed)
		queue = append(queue, api.Block{Counts: counts, Accel: limits.Accel(m, counts), Cruise: speed * speed})
		lines = append(lines, f.Line)
		caps := make([]int, len(queue))
		for i := 1; i < len(caps); i++ {
			v := limits.Junction(m, queue[i-1].Counts, queue[i].Counts)
			caps[i] = v * v
		}
		planned, e := ahead.Plan(queue, caps, 0)
		if e != api.OK {
			t.Fatalf("Plan: error %d", e)
		}
		queue = planned
	}
	for i, q := range []struct {
		c            api.Cmd
		counts       position
		length, feed int
		at           api.Vec
		e            int
	}{
		{cmd(api.CoTravel, api.HasX, 100, api.HasZ, 70, api.HasF, 20), position{200, 0, 70}, 122, 20, api.Vec{X: 100, Z: 70}, 0},
		{cmd(api.CoPrint, api.HasX, 130, api.HasY, 40, api.HasE, 3, api.HasF, 60), position{60, 40, 0, 8}, 50, 60, api.Vec{X: 130, Y: 40, Z: 70}, 3},
		{cmd(api.CoPrint, api.HasE, 8), position{0, 0, 0, 12}, 5, 60, api.Vec{X: 130, Y: 40, Z: 70}, 8},
		{cmd(api.CoPrint, api.HasE, 2), position{0, 0, 0, -15}, 6, 60, api.Vec{X: 130, Y: 40, Z: 70}, 2},
		{cmd(api.CoTravel, api.HasX, 160, api.HasF, 90), position{60}, 30, 90, api.Vec{X: 160, Y: 40, Z: 70}, 2},
		{cmd(api.CoTravel, api.HasX, 190), position{60}, 30, 90, api.Vec{X: 190, Y: 40, Z: 70}, 2},
	} {
		f = do(t, f, q.c)
		add(q.counts, q.length, q.feed)
		want := changed(f, func(f *api.Firmware) { f.Queue, f.Lines, f.At, f.E, f.Feed = queue, lines, q.at, q.e, q.feed })
		if !same(f, want) {
			t.Errorf("move %d leads to %v; want %v", i, f, want)
		}
	}
	if f.Queue[4].Exit == 0 || f.Queue[5].Exit != 0 {
		t.Errorf("the plan is %v", f.Queue)
	}
	// The speed at the end of the motion is fixed.
	moving, _ := Begin(f)
	again := do(t, moving, cmd(api.CoTravel, api.HasX, 500))
	if again.Motion != moving.Motion || again.Queue[0].Entry != moving.Motion.Block.Exit || again.Queue[4].Exit == 0 {
		t.Errorf("while moving, the plan is %v", again.Queue)
	}
	// Between two blocks, the speed at which the next one begins is fixed.
	for _, ways := range [][]int{{100, 200, 201}, {100, 102}} {
		between := homed(t)
		for _, x := range ways {
			between = do(t, between, cmd(api.CoTravel, api.HasX, x))
		}
		for between = ticks(between, 1); between.Moving; between = ticks(between, 1) {
		}
		entry, last := between.Queue[0].Entry, len(between.Queue)-1
		if more := do(t, between, cmd(api.CoTravel, api.HasX, 900)); entry == 0 || more.Queue[0].Entry != entry || more.Queue[last].Exit == 0 {
			t.Errorf("between two blocks, the plan is %v", more.Queue)
		}
	}
	fast, _ := Begin(do(t, homed(t), cmd(api.CoTravel, api.HasX, 1000)))
	fast.Motion.Block.Exit = fast.Motion.Block.Cruise
	if _, e := Accept(fast, fast.Line+1, cmd(api.CoTravel, api.HasX, 1001)); e != api.ErrLimit {
		t.Errorf("a block in which it cannot stop: error %d", e)
	}
}

// P53.3, condition 9.
func TestHome(t *testing.T) {
	f := changed(fresh(), func(f *api.Firmware) {
		f.Pos, f.At, f.E = position{5, 6, 7, 8}, api.Vec{X: 1, Y: 2, Z: 3}, 99
		f.Machine.Axes[3].Num = 3
	})
	origin := func(f *api.Firmware) { f.Pos, f.At, f.E, f.Homed = position{0, 0, 0, 8}, api.Vec{}, 3, true }
	expect(t, "first", f, 1, cmd(api.CoHome), api.OK, func(f *api.Firmware) { origin(f); f.Line = 1 })
	expect(t, "operator", f, 0, cmd(api.CoHome), api.OK, origin)
	again := changed(f, func(f *api.Firmware) { f.Homed = true })
	expect(t, "with a place, but not back", changed(again, func(f *api.Firmware) { f.Return = position{5, 6, 7, 8} }), 1, cmd(api.CoHome), api.OK, func(f *api.Firmware) { origin(f); f.Line = 1 })
	expect(t, "of the program, homed", again, 1, cmd(api.CoHome), api.OK, func(f *api.Firmware) { origin(f); f.Line = 1 })
	block := func(f *api.Firmware, counts position) api.Block {
		speed := limits.Speed(f.Machine, counts, 0, f.Feed)
		return api.Block{Counts: counts, Accel: limits.Accel(f.Machine, counts), Cruise: speed * speed}
	}
	expect(t, "of the operator, homed", again, 0, cmd(api.CoHome), api.OK, func(f *api.Firmware) {
		origin(f)
		f.Return, f.At = position{5, 6, 7, 8}, api.Vec{X: 5, Y: 6, Z: 7}
		f.Queue, f.Lines = []api.Block{block(f, position{2: 7}), block(f, position{5, 6})}, []int{0, 0}
		plan, _ := ahead.Plan(f.Queue, []int{0, 40000}, 0)
		f.Queue = plan
	})
	back := func(place position) api.Firmware {
		return changed(f, func(f *api.Firmware) { f.Back, f.Return, f.Feed = true, place, 50 })
	}
	for name, q := range map[string]struct {
		place  position
		counts []position
		at     api.Vec
	}{
		"up":      {position{0, 0, 9, 4}, []position{{2: 9}}, api.Vec{Z: 9}},
		"beside":  {position{0, 3, 0, 4}, []position{{1: 3}}, api.Vec{Y: 3}},
		"nowhere": {position{0, 0, 0, 4}, nil, api.Vec{}},
		"below":   {position{-2, 3, -9, 4}, []position{{2: -9}, {0: -2, 1: 3}}, api.Vec{X: -2, Y: 3, Z: -9}},
	} {
		for _, line := range []int{0, 1} {
			expect(t, name, back(q.place), line, cmd(api.CoHome), api.OK, func(f *api.Firmware) {
				origin(f)
				f.Line, f.Back, f.At = line, false, q.at
				for _, counts := range q.counts {
					f.Queue, f.Lines = append(f.Queue, block(f, counts)), append(f.Lines, 0)
				}
				caps := make([]int, len(f.Queue))
				if len(caps) == 2 {
					v := limits.Junction(f.Machine, q.counts[0], q.counts[1])
					caps[1] = v * v
				}
				f.Queue, _ = ahead.Plan(f.Queue, caps, 0)
			})
		}
	}
	core := changed(back(position{10, 4, 0, 0}), func(f *api.Firmware) { f.Machine.CoreXY = true })
	if got, e := Accept(core, 1, cmd(api.CoHome)); e != api.OK || got.At != (api.Vec{X: 7, Y: 3}) || len(got.Queue) != 1 || got.Queue[0].Counts != (position{10, 4}) {
		t.Errorf("CoreXY: %v, %d", got, e)
	}
}
