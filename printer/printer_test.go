package printer

import (
	"fmt"
	"math"
	"slices"
	"strings"
	"testing"

	"additive/api"
	"additive/firmware"
	"additive/flash"
	"additive/gcode"
	"additive/guard"
	"additive/job"
	"additive/journal"
	"additive/link"
	"additive/power"
	"additive/region"
	"additive/shapes"
)

// settings and machine are the default ones of layer 59.
func settings() api.Settings {
	return api.Settings{Pitch: 40, Height: 20, Walls: 1, Top: 1, Bottom: 1, Spacing: 2, Reach: 1, Gap: 1, Drop: 8000, Feed: 4000, Travel: 8000, Retract: 2, MinFeed: 40, Nozzle: 200000, Bed: 60000}
}

func machine() api.Machine {
	m := api.Machine{Ticks: 1000}
	for i := range m.Axes {
		m.Axes[i] = api.Axis{Num: 1, Den: 1, Speed: 1000, Accel: 100000, Jerk: 200, Min: 0, Max: 20000}
	}
	m.Axes[2].Speed = 500
	m.Axes[3].Min, m.Axes[3].Max = -1000000, 1000000
	return m
}

func fresh() api.World {
	w, e := New(settings(), machine(), 16)
	if e != api.OK {
		panic("no world")
	}
	return w
}

func box(n ...int) api.Step { return api.Step{Kind: api.WsPart, Name: "box", Numbers: n} }

func step(kind int, n ...int) api.Step {
	s := api.Step{Kind: kind}
	if len(n) > 0 {
		s.N = n[0]
	}
	if len(n) > 1 {
		s.At = n[1]
	}
	return s
}

func at(kind, n int) api.Step { return api.Step{Kind: kind, At: n} }

func panel(code int, s ...int) api.Step {
	c := api.Cmd{Code: code}
	if len(s) > 0 {
		c.Has, c.S = api.HasS, s[0]
	}
	return api.Step{Kind: api.WsPanel, Cmd: c}
}

// same compares worlds, in which nil and empty lists are equal.
func same(w, v api.World) bool { return fmt.Sprint(w) == fmt.Sprint(v) }

// do performs steps that have no errors.
func do(t *testing.T, w api.World, l ...api.Step) api.World {
	t.Helper()
	for _, s := range l {
		given := fmt.Sprint(w)
		next, e := Do(w, s)
		if e != api.OK {
			t.Fatalf("step %v: error %d", s, e)
		}
		if fmt.Sprint(w) != given {
			t.Fatalf("step %v has changed the world that it was given", s)
		}
		w = next
	}
	return w
}

// refuse checks that a step has an error, and changes nothing.
func refuse(t *testing.T, w api.World, s api.Step, want api.Errno) {
	t.Helper()
	given := fmt.Sprint(w)
	if next, e := Do(w, s); e != want || fmt.Sprint(next) != given || fmt.Sprint(w) != given {
		t.Errorf("step %v: error %d; want %d", s, e, want)
	}
}

// sliced returns a world with the program of a box of a single cell.
func sliced(t *testing.T) api.World {
	t.Helper()
	return do(t, fresh(), box(40, 40, 0, 40, 40, 20), step(api.WsSlice))
}

// P58.1.
func TestNew(t *testing.T) {
	w := fresh()
	memory, _ := flash.New(16)
	c := api.Control{Kp: 10, Ki: 1, Scale: 1000, Limit: 255000}
	f, _ := firmware.New(machine(), [2]api.Control{c, c}, [2]api.Guard{
		{Low: 1000, High: 290000, Watch: 50, Rise: 500, Band: 10000, Idle: 5000}, {Low: 1000, High: 120000, Watch: 100, Rise: 200, Band: 5000, Idle: 5000},
	}, 170000)
	want := api.World{
		Settings: settings(), Machine: machine(), Power: true, Flash: memory, Device: api.Device{Want: 1}, Firmware: f,
		Bench: api.Bench{Temps: [2]int{20000, 20000}, Heaters: [2]api.Heater{{Power: 4400, Loss: 4, Mass: 400, Ambient: 20000}, {Power: 800, Loss: 2, Mass: 400, Ambient: 20000}}},
	}
	if !same(w, want) {
		t.Errorf("New = %v; want %v", w, want)
	}
	thin, broken := settings(), machine()
	thin.Drop, broken.Ticks = 8001, 0
	for i, q := range []struct {
		s     api.Settings
		m     api.Machine
		pages int
		e     api.Errno
	}{{settings(), machine(), 2, api.OK}, {thin, machine(), 16, api.ErrArg}, {settings(), broken, 16, api.ErrArg}, {settings(), machine(), 1, api.ErrArg}, {settings(), machine(), 257, api.ErrArg}, {settings(), machine(), math.MinInt, api.ErrArg}} {
		if w, e := New(q.s, q.m, q.pages); e != q.e || e != api.OK && !same(w, api.World{}) {
			t.Errorf("case %d: New: error %d; want %d", i, e, q.e)
		}
		if w, e := Run(q.s, q.m, nil); (e != q.e && q.pages == 16) || e != api.OK && !same(w, api.World{}) {
			t.Errorf("case %d: Run: error %d; want %d", i, e, q.e)
		}
	}
}

// P58.2: parts.
func TestPart(t *testing.T) {
	b, _ := shapes.Box(api.Vec{X: 1, Y: 2, Z: 3}, api.Vec{X: 4, Y: 5, Z: 6})
	prism, _ := shapes.Prism([]api.Pt{{}, {X: 100}, {Y: 100}}, 5, 60)
	pyramid, _ := shapes.Pyramid([]api.Pt{{}, {X: 100}, {Y: 100}}, 5, api.Vec{X: 7, Y: 8, Z: 90})
	w := do(t, fresh(), box(1, 2, 3, 4, 5, 6), api.Step{Kind: api.WsPart, Name: "prism", Numbers: []int{5, 60, 0, 0, 100, 0, 0, 100}}, api.Step{Kind: api.WsPart, Name: "pyramid", Numbers: []int{5, 7, 8, 90, 0, 0, 100, 0, 0, 100}})
	want := fresh()
	want.Parts = []api.Mesh{b, prism, pyramid}
	if !same(w, want) {
		t.Errorf("the parts are %v; want %v", w.Parts, want.Parts)
	}
	full := fresh()
	for range 16 {
		full = do(t, full, box(0, 0, 0, 1, 1, 1))
	}
	for _, q := range []struct {
		w api.World
		s api.Step
		e api.Errno
	}{
		{w, api.Step{Kind: api.WsPart, Name: "ball"}, api.ErrUnknown}, {w, api.Step{Kind: api.WsPart}, api.ErrUnknown}, {w, box(), api.ErrArg}, {w, box(1, 2, 3, 4, 5), api.ErrArg}, {w, box(1, 2, 3, 4, 5, 6, 7), api.ErrArg}, {w, box(1, 2, 3, 4, 5, 0), api.ErrArg},
		{w, box(1, 2, 3, 4, 5, 1<<17), api.ErrRange}, {w, api.Step{Kind: api.WsPart, Name: "prism", Numbers: []int{5}}, api.ErrArg}, {w, api.Step{Kind: api.WsPart, Name: "prism"}, api.ErrArg}, {w, api.Step{Kind: api.WsPart, Name: "prism", Numbers: []int{5, 6}}, api.ErrArg},
		{w, api.Step{Kind: api.WsPart, Name: "prism", Numbers: []int{5, 60, 0, 0, 100, 0, 0}}, api.ErrArg}, {w, api.Step{Kind: api.WsPart, Name: "prism", Numbers: []int{5, 60, 0, 0, 100, 0, 0, 1 << 20}}, api.ErrRange},
		{w, api.Step{Kind: api.WsPart, Name: "pyramid", Numbers: []int{5, 7, 8}}, api.ErrArg}, {w, api.Step{Kind: api.WsPart, Name: "pyramid", Numbers: []int{5, 7, 8, 90, 0, 0, 100, 0, 0}}, api.ErrArg}, {w, api.Step{Kind: api.WsPart, Name: "pyramid"}, api.ErrArg},
		{w, api.Step{Kind: api.WsPart, Name: "pyramid", Numbers: []int{5, 7, 8, 90}}, api.ErrArg}, {full, box(0, 0, 0, 1, 1, 1), api.ErrFull}, {full, box(0, 0, 0, 1, 1, 0), api.ErrArg}, {full, api.Step{Kind: api.WsPart, Name: "x"}, api.ErrUnknown},
		{sliced(t), box(0, 0, 0, 1, 1, 1), api.ErrState}, {sliced(t), api.Step{Kind: api.WsPart, Name: "x"}, api.ErrState},
	} {
		refuse(t, q.w, q.s, q.e)
	}
}

// P58.2: the program.
func TestSlice(t *testing.T) {
	w := sliced(t)
	want := do(t, fresh(), box(40, 40, 0, 40, 40, 20))
	want.Program, want.Slices, _ = job.Program(want.Parts, want.Settings, want.Machine)
	var lines []string
	for _, c := range want.Program {
		line, _ := gcode.Print(c)
		lines = append(lines, line)
	}
	want.Host, _ = link.Start(lines, 4)
	if !same(w, want) || len(lines) != 15 || lines[2] != "G28" {
		t.Errorf("the world is %v; want %v", w, want)
	}
	refuse(t, fresh(), step(api.WsSlice), api.ErrState)
	refuse(t, w, step(api.WsSlice), api.ErrState)
	refuse(t, do(t, fresh(), box(-40, 40, 0, 40, 40, 20)), step(api.WsSlice), api.ErrRange)
	refuse(t, do(t, fresh(), box(40, 40, -20, 40, 40, 60)), step(api.WsSlice), api.ErrRange)
	again := do(t, fresh(), box(40, 40, 0, 40, 40, 20), box(400, 40, 0, 40, 40, 20), step(api.WsSlice))
	again.Slices[0].Rows[0].Runs[0].From, again.Parts[0].Verts[0].X = 7, 7
	refuse(t, again, step(api.WsSlice), api.ErrState)
}

// P58.2: messages.
func TestMessages(t *testing.T) {
	w := sliced(t)
	for _, s := range []api.Step{at(api.WsDeliver, 0), at(api.WsDrop, 0), at(api.WsDouble, 0), at(api.WsSpoil, 0), at(api.WsDeliver, -1), at(api.WsDrop, math.MaxInt)} {
		refuse(t, w, s, api.ErrNotFound)
	}
	for _, s := range []api.Step{step(api.WsSend), step(api.WsTimeout), step(api.WsRun, 1)} {
		refuse(t, fresh(), s, api.ErrState)
	}
	w = do(t, w, step(api.WsSend), step(api.WsSend), step(api.WsSend), step(api.WsSend))
	refuse(t, w, step(api.WsSend), api.ErrState)
	if len(w.Net) != 4 || w.Net[2].Text != "N3 G28*16" || w.Host.Next != 5 || w.Host.Sent != 4 {
		t.Errorf("the net is %v, the host %v", w.Net, w.Host)
	}
	dropped := do(t, w, at(api.WsDrop, 1))
	doubled := do(t, w, at(api.WsDouble, 2))
	spoilt := do(t, w, api.Step{Kind: api.WsSpoil, At: 2, N: -3})
	if len(dropped.Net) != 3 || dropped.Net[1] != w.Net[2] || len(doubled.Net) != 5 || doubled.Net[4] != w.Net[2] || spoilt.Net[2] != (api.Packet{Text: "N3 G28+16", Spoilt: true}) {
		t.Errorf("the nets are %v, %v and %v", dropped.Net, doubled.Net, spoilt.Net)
	}
	refuse(t, spoilt, at(api.WsSpoil, 2), api.ErrState)
	timeout := do(t, w, step(api.WsTimeout))
	if timeout.Host.Base != 1 || timeout.Host.Next != 1 || timeout.Host.Sent != 4 || len(timeout.Net) != 4 {
		t.Errorf("the host is %v", timeout.Host)
	}
	full := w
	for len(full.Net) < api.MaxMail {
		full = do(t, full, at(api.WsDouble, 0))
	}
	refuse(t, full, at(api.WsDouble, 0), api.ErrFull)
	// A message beyond the limit is lost.
	full = do(t, full, step(api.WsTimeout), step(api.WsSend))
	if len(full.Net) != api.MaxMail || full.Host.Next != 2 || full.Host.Sent != 5 {
		t.Errorf("%d messages, the host is %v", len(full.Net), full.Host)
	}
}

// P58.2: delivery.
func TestDeliver(t *testing.T) {
	w := do(t, sliced(t), step(api.WsSend), step(api.WsSend))
	one := do(t, w, at(api.WsDeliver, 0))
	if one.Device.Want != 2 || one.Firmware.Line != 1 || one.Firmware.Heaters[1].Target != 60000 || len(one.Net) != 2 || !strings.HasPrefix(one.Net[1].Text, "ok 1*") || !one.Net[1].Back {
		t.Errorf("the net is %v, the device %v", one.Net, one.Device)
	}
	if back := do(t, one, at(api.WsDeliver, 1)); back.Host.Base != 2 || back.Host.Next != 3 || len(back.Net) != 1 {
		t.Errorf("the host is %v", back.Host)
	}
	// Too early, damaged, or again.
	for name, q := range map[string]struct {
		w     api.World
		at    int
		reply string
	}{
		"too early": {w, 1, "resend 1*"}, "damaged": {do(t, w, at(api.WsSpoil, 0)), 0, "resend 1*"}, "again": {do(t, one, step(api.WsTimeout), step(api.WsSend)), 2, "ok 1*"},
	} {
		got := do(t, q.w, at(api.WsDeliver, q.at))
		if got.Device != q.w.Device || got.Firmware.Line != q.w.Firmware.Line || !strings.HasPrefix(got.Net[len(got.Net)-1].Text, q.reply) || len(got.Net) != len(q.w.Net) {
			t.Errorf("%s: the net is %v", name, got.Net)
		}
	}
	// A command that the printer refuses, and a line that is no command, are asked for again.
	refused := do(t, one, panel(api.CoPause))
	refused.Host.Lines[1] = "G28"
	refused.Net = nil
	noise := do(t, one, step(api.WsTicks, 1))
	noise.Host.Lines[1], noise.Net = "noise", nil
	for name, w := range map[string]api.World{"refused": refused, "noise": noise} {
		w = do(t, w, step(api.WsTimeout), step(api.WsSend), step(api.WsSend))
		got := do(t, w, at(api.WsDeliver, 1))
		if got.Device.Want != 2 || got.Firmware.Line != 1 || !strings.HasPrefix(got.Net[1].Text, "resend 2*") || !got.Net[1].Back {
			t.Errorf("%s: the net is %v", name, got.Net)
		}
	}
	off := do(t, w, step(api.WsOff))
	if got := do(t, off, at(api.WsDeliver, 0)); len(got.Net) != 1 || got.Net[0] != w.Net[1] || got.Device != (api.Device{}) {
		t.Errorf("without power, the net is %v", got.Net)
	}
	if got := do(t, do(t, one, step(api.WsOff)), at(api.WsDeliver, 1)); len(got.Net) != 1 || got.Host.Base != 2 {
		t.Errorf("without power, the host is %v", got.Host)
	}
}

// P58.2: ticks, the door, sensors and filament.
func TestBench(t *testing.T) {
	w := do(t, fresh(), panel(api.CoNozzle, 200000), step(api.WsTicks, 1))
	if w.Bench.Temps != [2]int{22805, 20000} || w.Firmware.Ticks != 1 || w.Firmware.Readings != [2]int{20000, 20000} {
		t.Errorf("the bench is %v", w.Bench)
	}
	broken := do(t, w, step(api.WsSensor, 1, 1), step(api.WsTicks, 1))
	if broken.Bench.Broken != [2]bool{false, true} || broken.Firmware.Mode != api.MoFault || broken.Firmware.Readings != [2]int{22805, 0} || broken.Firmware.Guards[1].Fault != api.FaCold {
		t.Errorf("the firmware is %v", broken.Firmware)
	}
	if mended := do(t, broken, step(api.WsSensor, 0, 1), step(api.WsTicks, 2)); mended.Bench.Broken != [2]bool{} || mended.Firmware.Readings[1] != 20000 {
		t.Errorf("the readings are %v", mended.Firmware.Readings)
	}
	if nozzle := do(t, w, step(api.WsSensor, 1, 0), step(api.WsFeed, 1)); nozzle.Bench.Broken != [2]bool{true, false} || nozzle.Bench.Filament != 1 {
		t.Errorf("the bench is %v", nozzle.Bench)
	}
	open := do(t, w, step(api.WsDoor, 1))
	if !open.Bench.Door || !open.Firmware.Guards[0].Door || !open.Firmware.Guards[1].Door {
		t.Error("the door is closed")
	}
	cooled := do(t, open, step(api.WsTicks, 1))
	if cooled.Bench.Temps[0] != 22805+(-4*2805-399)/400 {
		t.Errorf("with the door open the temperatures are %v", cooled.Bench.Temps)
	}
	if closed := do(t, open, step(api.WsDoor, 0)); closed.Bench.Door || closed.Firmware.Guards[0].Door || closed.Firmware.Guards[1].Door {
		t.Error("the door is open")
	}
	off := do(t, w, step(api.WsOff), step(api.WsDoor, 1), step(api.WsTicks, 2), step(api.WsFeed, 5))
	if off.Bench.Temps[0] >= 22805 || !off.Bench.Door || !same(api.World{Firmware: off.Firmware, Device: off.Device}, api.World{}) || off.Bench.Filament != 5 {
		t.Errorf("without power: %v", off)
	}
	if on := do(t, off, step(api.WsOn)); on.Firmware.Guards[0] != guard.Door(fresh().Firmware.Guards[0], true) || !on.Firmware.Guards[1].Door {
		t.Errorf("the guards are %v", on.Firmware.Guards)
	}
	full := do(t, w, step(api.WsFeed, 1<<24))
	full.Bench.Filament = 1<<40 - 5
	if got := do(t, full, step(api.WsFeed, 5)); got.Bench.Filament != 1<<40 {
		t.Errorf("the filament is %d", got.Bench.Filament)
	}
	refuse(t, full, step(api.WsFeed, 6), api.ErrArg)
	for _, s := range []api.Step{
		step(api.WsTicks), step(api.WsTicks, -1), step(api.WsTicks, 10001), step(api.WsTicks, math.MaxInt), step(api.WsDoor, 2), step(api.WsDoor, -1), step(api.WsSensor, 2), step(api.WsSensor, -1), step(api.WsSensor, 0, 2), step(api.WsSensor, 1, -1),
		step(api.WsFeed), step(api.WsFeed, -5), step(api.WsFeed, 1<<24+1), step(api.WsFeed, math.MinInt),
	} {
		refuse(t, w, s, api.ErrArg)
	}
	for _, kind := range []int{0, 17, -1, math.MaxInt} {
		refuse(t, w, step(kind), api.ErrUnknown)
	}
	if got := do(t, w, step(api.WsTicks, 10000)); got.Firmware.Ticks != 10001 {
		t.Errorf("the ticks are %d", got.Firmware.Ticks)
	}
}

// P58.2: the panel.
func TestPanel(t *testing.T) {
	w := sliced(t)
	w.Bench.Real, w.Firmware.Pos = position{7, 8, 9, 3}, position{4, 5, 6, 3}
	homed := do(t, w, panel(api.CoHome))
	if !homed.Firmware.Homed || homed.Bench.Real != (position{0, 0, 0, 3}) || homed.Firmware.Pos != homed.Bench.Real || len(journal.All(homed.Flash)) != 2 || homed.Device.Want != 1 {
		t.Errorf("the world is %v", homed)
	}
	stopped := do(t, w, panel(api.CoStop))
	if stopped.Firmware.Mode != api.MoFault || stopped.Firmware.Line != 0 || stopped.Device.Want != 1 {
		t.Errorf("the firmware is %v", stopped.Firmware)
	}
	refuse(t, stopped, panel(api.CoHome), api.ErrFault)
	refuse(t, w, panel(api.CoReset), api.ErrState)
	for _, c := range []api.Cmd{{Code: api.CoTravel}, {Code: api.CoPrint, Has: api.HasX, X: 5}, {Code: 2}, {Code: api.CoHome, S: 1}, {}} {
		refuse(t, w, api.Step{Kind: api.WsPanel, Cmd: c}, api.ErrArg)
	}
	off := do(t, w, step(api.WsOff))
	refuse(t, off, panel(api.CoHome), api.ErrState)
	refuse(t, off, api.Step{Kind: api.WsPanel}, api.ErrState)
	// With a memory that fails, the motors may have moved.
	for n, real := range map[int]position{1: {7, 8, 9, 3}, 2: {0, 0, 0, 3}} {
		weak := do(t, w)
		weak.Flash = flash.Fail(weak.Flash, n, 5)
		_, memory, _, _ := power.Accept(weak.Firmware, weak.Flash, 0, api.Cmd{Code: api.CoHome})
		want := do(t, weak, step(api.WsDoor, 0))
		want.Flash, want.Bench.Real = memory, real
		if got, e := Do(weak, panel(api.CoHome)); e != api.ErrPower || !same(got, want) {
			t.Errorf("with a failure of write %d: error %d, %v; want %v", n, e, got, want)
		}
	}
}

type position = [api.Motors]int

// P58.2: the power.
func TestPower(t *testing.T) {
	w := do(t, sliced(t), panel(api.CoHome), step(api.WsSend), step(api.WsSend), at(api.WsDeliver, 0))
	refuse(t, w, step(api.WsOn), api.ErrState)
	for _, s := range []api.Step{step(api.WsOff, -1), step(api.WsOff, 11), {Kind: api.WsOff, Keep: -1}, {Kind: api.WsOff, Keep: 65}} {
		refuse(t, w, s, api.ErrArg)
	}
	for n := range 11 {
		off := do(t, w, api.Step{Kind: api.WsOff, N: n, Keep: 64})
		want := do(t, w, step(api.WsDoor, 0))
		want.Power, want.Firmware, want.Device = false, api.Firmware{}, api.Device{}
		want.Flash = power.Fail(w.Firmware, flash.Fail(w.Flash, n, 64))
		if !same(off, want) || len(off.Net) != 2 {
			t.Errorf("off %d: the world is %v; want %v", n, off, want)
		}
		refuse(t, off, step(api.WsOff), api.ErrState)
		refuse(t, off, step(api.WsOff, 11), api.ErrState)
		on := do(t, off, step(api.WsOn))
		booted, _ := power.Recover(fresh().Firmware, flash.Power(off.Flash))
		want.Power, want.Firmware, want.Flash, want.Device.Want, want.Net = true, booted, flash.Power(off.Flash), booted.Line+1, nil
		want.Host, _ = link.Again(w.Host, booted.Line+1)
		if !same(on, want) || !on.Firmware.Homed {
			t.Errorf("on %d: the world is %v; want %v", n, on, want)
		}
	}
	// Without a program there is no host; and a journal that leads nowhere is not used.
	plain := do(t, fresh(), step(api.WsOff), step(api.WsOn))
	if !same(plain, fresh()) {
		t.Errorf("the world is %v", plain)
	}
	bad := do(t, fresh(), step(api.WsOff))
	bad.Flash, _ = journal.Append(flash.Power(bad.Flash), api.Record{Kind: api.ReFail, Seq: 1, Line: 70, From: position{1 << 30}})
	if on := do(t, bad, step(api.WsOn)); on.Firmware.Homed || on.Device.Want != 1 || on.Firmware.Line != 0 {
		t.Errorf("the firmware is %v", on.Firmware)
	}
	// The host stays where it is, if the program is shorter than that.
	bad = do(t, sliced(t), step(api.WsSend), step(api.WsOff))
	bad.Flash, _ = journal.Append(flash.Power(bad.Flash), api.Record{Kind: api.ReFail, Seq: 1, Line: 70})
	if on := do(t, bad, step(api.WsOn)); on.Device.Want != 71 || on.Host.Base != 1 || on.Host.Next != 2 {
		t.Errorf("the host is %v, the device %v", on.Host, on.Device)
	}
}

// P58.2: many exchanges are the same as their single steps.
func TestRunIsItsSteps(t *testing.T) {
	w := do(t, sliced(t), step(api.WsFeed, 100))
	w.Firmware.Guards[0].Idle = 300
	for _, s := range []api.Step{step(api.WsRun), step(api.WsRun, -1), step(api.WsRun, 10001)} {
		refuse(t, w, s, api.ErrArg)
		refuse(t, fresh(), s, api.ErrArg)
	}
	busy := do(t, w, step(api.WsSend), step(api.WsSend), at(api.WsDouble, 1), at(api.WsSpoil, 0))
	crowded := do(t, w, step(api.WsSend))
	for len(crowded.Net) < 62 {
		crowded = do(t, crowded, at(api.WsDouble, 0))
	}
	off := do(t, busy, step(api.WsOff))
	for name, w := range map[string]api.World{"new": w, "busy": busy, "crowded": crowded, "off": off, "full": do(t, crowded, at(api.WsDouble, 0), at(api.WsDouble, 0))} {
		single := w
		for n := range 400 {
			idle := len(single.Net) == 0
			for len(single.Net) < api.MaxMail {
				next, e := Do(single, step(api.WsSend))
				if e != api.OK {
					break
				}
				single = next
			}
			for len(single.Net) > 0 {
				single, _ = Do(single, at(api.WsDeliver, 0))
			}
			if idle && single.Host.Base <= len(single.Host.Lines) {
				single, _ = Do(single, step(api.WsTimeout))
			}
			single, _ = Do(single, step(api.WsTicks, 1))
			if n%97 == 0 {
				if together := do(t, w, step(api.WsRun, n+1)); !same(together, single) {
					t.Fatalf("%s: %d exchanges lead to %v; want %v", name, n+1, together, single)
				}
			}
		}
	}
}

// P58.2: a line whose answer was lost is sent again, also the last one; and what is finished stays so.
func TestLastLine(t *testing.T) {
	w := do(t, sliced(t), step(api.WsFeed, 100), step(api.WsRun, 10000))
	end := len(w.Host.Lines) + 1
	if w.Host.Base != end || w.Device.Want != end {
		t.Fatalf("the host is %v", w.Host)
	}
	lost := do(t, w, step(api.WsDoor))
	lost.Host.Base = end - 1
	if got := do(t, lost, step(api.WsRun, 1)); got.Host.Base != end-1 || got.Host.Next != end-1 {
		t.Errorf("the host is %v", got.Host)
	}
	if got := do(t, lost, step(api.WsRun, 2)); got.Host.Base != end || got.Host.Next != end || got.Host.Sent != w.Host.Sent+1 {
		t.Errorf("the host is %v", got.Host)
	}
	w.Host.Base, w.Host.Next = 1, 1
	if got := do(t, w, step(api.WsOff, 2), step(api.WsOn)); got.Device.Want != end || got.Host.Base != end || got.Host.Next != end {
		t.Errorf("the host is %v", got.Host)
	}
}

// P58.2: a host that is not valid does nothing.
func TestInvalidHost(t *testing.T) {
	w := sliced(t)
	w.Host.Window = 9
	w.Net = []api.Packet{{Back: true, Text: "ok 1*21"}}
	refuse(t, w, step(api.WsSend), api.ErrState)
	for _, s := range []api.Step{step(api.WsTimeout), at(api.WsDeliver, 0), step(api.WsRun, 3)} {
		if got := do(t, w, s); got.Host.Base != 1 || got.Host.Next != 1 || got.Host.Sent != 0 {
			t.Errorf("step %v leads to the host %v", s, got.Host)
		}
	}
}

// P58.2 and rule 0.4: a world shares no memory with the one before it.
func TestNewWorlds(t *testing.T) {
	w := do(t, fresh(), box(40, 40, 0, 120, 80, 40), step(api.WsSlice), step(api.WsFeed, 1000))
	for len(w.Bench.Layers) == 0 {
		w = do(t, w, step(api.WsRun, 100))
	}
	w.Net = []api.Packet{{Text: "noise"}}
	if len(w.Firmware.Queue) == 0 {
		t.Fatalf("the world is %v", w)
	}
	given := fmt.Sprint(w)
	got, _ := Do(w, step(api.WsDoor, 1))
	got.Parts[0].Verts[0].X, got.Parts[0].Tris[0].A = -9, 9
	got.Slices[0].Rows[0].Y, got.Slices[1].Rows[0].Runs[0].To = 9, 99
	got.Program[0].S, got.Host.Lines[0], got.Net[0].Text = 9, "x", "x"
	got.Firmware.Queue[0].Accel, got.Firmware.Lines[0] = 9, 9
	got.Flash.Pages[0] = "x"
	got.Bench.Layers[0].Rows[0].Y, got.Bench.Layers[0].Rows[0].Runs[0].To = 9, 99
	if fmt.Sprint(w) != given {
		t.Error("the worlds share memory")
	}
	got, _ = Do(w, step(99))
	got.Parts[0], got.Slices[0], got.Bench.Layers[0] = api.Mesh{}, api.Region{}, api.Region{}
	if fmt.Sprint(w) != given {
		t.Error("the unchanged world shares memory")
	}
}

// P58.2, P58.5: the example.
func TestExample(t *testing.T) {
	w := do(t, fresh(), box(40, 40, 0, 120, 80, 40), step(api.WsSlice), step(api.WsFeed, 100000))
	for range 20 {
		w = do(t, w, step(api.WsRun, 1000))
	}
	refuse(t, w, step(api.WsSend), api.ErrState)
	cells := api.Region{Rows: []api.Row{{Y: 1, Runs: []api.Run{{From: 1, To: 4}}}, {Y: 2, Runs: []api.Run{{From: 1, To: 4}}}}}
	if w.Host.Base != len(w.Host.Lines)+1 || len(w.Bench.Layers) != 2 || !region.Same(w.Bench.Layers[0], cells) || !region.Same(w.Bench.Layers[1], cells) || w.Firmware.Line != len(w.Program) {
		t.Errorf("the world is %v", w)
	}
	if w.Bench.Hits != 0 || w.Bench.Dry != 0 || w.Bench.Real != w.Firmware.Pos || !slices.Equal(w.Bench.Real[:3], []int{w.Firmware.At.X, w.Firmware.At.Y, w.Firmware.At.Z}) {
		t.Errorf("the bench is %v", w.Bench)
	}
}
