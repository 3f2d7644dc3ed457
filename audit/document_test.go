package audit

import (
	"slices"
	"strings"
	"testing"

	"additive/api"
	"additive/boundary"
	"additive/firmware"
	"additive/flash"
	"additive/gcode"
	"additive/job"
	"additive/link"
	"additive/mesh"
	"additive/power"
	"additive/printer"
	"additive/pulse"
	"additive/region"
	"additive/repair"
	"additive/script"
	"additive/shapes"
	"additive/stack"
	"additive/thermal"
	"additive/thin"
	"additive/track"
	"additive/walls"
	"additive/wind"
)

// square returns the region of n times n cells from (x, y) on.
func square(x, y, n int) api.Region {
	var l []int
	for i := range n * n {
		l = append(l, x+i%n, y+i/n)
	}
	return cells(l...)
}

// DOC.md, examples 1 to 4.
func TestShapesAndSlices(t *testing.T) {
	box, _ := shapes.Box(api.Vec{}, api.Vec{X: 80, Y: 40, Z: 40})
	layers, e := stack.Slices([]api.Mesh{box}, api.Settings{Pitch: 40, Height: 20})
	if e != api.OK || len(layers) != 2 || !region.Same(layers[0], cells(0, 0, 1, 0)) || !region.Same(layers[1], cells(0, 0, 1, 0)) {
		t.Errorf("the slices of a box are %v, %d", layers, e)
	}
	box, _ = shapes.Box(api.Vec{}, api.Vec{X: 2, Y: 3, Z: 4})
	repaired, report, e := repair.Repair(mesh.Reverse(box))
	if e != api.OK || report != (api.Report{Inverted: 1, Shells: 1}) || repair.Check(repaired) != api.OK || mesh.Volume6(repaired) != 144 {
		t.Errorf("Repair = %v, %d", report, e)
	}
	five := square(0, 0, 5)
	tracks, inner := walls.Walls(five, 1)
	if len(tracks) != 1 || !tracks[0].Closed || len(tracks[0].Cells) != 16 || region.Count(inner) != 9 {
		t.Errorf("the walls are %v, and inside there is %v", tracks, inner)
	}
	if loops := boundary.Trace(five); len(loops) != 1 || len(loops[0].Pts) != 4 || boundary.Length(five) != 20 || wind.Area2(loops) != 50 {
		t.Errorf("the boundary is %v", loops)
	}
	wide, narrow := thin.Split(cells(1, 1))
	if lines := thin.Lines(narrow); len(wide.Rows) != 0 || len(lines) != 1 || !region.Same(track.Cover(lines), cells(1, 1)) {
		t.Errorf("a single cell is wide: %v, and has the lines %v", wide, lines)
	}
}

// DOC.md, examples 5, 6 and 11.
func TestProgram(t *testing.T) {
	box, _ := shapes.Box(api.Vec{X: 40, Y: 40}, api.Vec{X: 40, Y: 40, Z: 20})
	program, _, e := job.Program([]api.Mesh{box}, settings(), machine())
	var lines []string
	for _, c := range program {
		line, _ := gcode.Print(c)
		lines = append(lines, line)
	}
	want := "M140 S60000; M104 S200000; G28; M190 S60000; M109 S200000; G0 Z20 F8000; M107; G1 E-2; G0 X60 Y20; G0 X60 Y60; G1 E0; G1 E4 F4000; M107; M104 S0; M140 S0"
	if got := strings.Join(lines, "; "); e != api.OK || got != want {
		t.Errorf("the program is %q, %d", got, e)
	}
	if frame, e := link.Frame(3, lines[2]); frame != "N3 G28*16" || e != api.OK {
		t.Errorf("the third line is sent as %q, %d", frame, e)
	}
	if got := script.Play("part box 40 40 0 40 40 20\nslice\nsend\ndeliver 0\nticks 1\n"); got != "ok\nok 15\nok\nok\nok at 0 0 0 0 mode 1 line 1\n" {
		t.Errorf("the script prints %q", got)
	}
}

// homed returns a firmware that is homed, whose axes all have this acceleration and jerk.
func homed(t *testing.T, accel, jerk int) api.Firmware {
	t.Helper()
	m := machine()
	for i := range m.Axes {
		m.Axes[i].Accel, m.Axes[i].Jerk = accel, jerk
	}
	w, e := printer.New(settings(), m, 16)
	if e != api.OK {
		t.Fatalf("New: error %d", e)
	}
	f, e := firmware.Accept(w.Firmware, 1, api.Cmd{Code: api.CoHome})
	if e != api.OK {
		t.Fatalf("Accept: error %d", e)
	}
	return f
}

// DOC.md, examples 7, 8 and 9.
func TestMotion(t *testing.T) {
	f := homed(t, 50, 10)
	for i, c := range []api.Cmd{{Code: api.CoTravel, Has: api.HasX, X: 2}, {Code: api.CoTravel, Has: api.HasX | api.HasY, X: 4, Y: 1}} {
		var e api.Errno
		if f, e = firmware.Accept(f, i+2, c); e != api.OK {
			t.Fatalf("Accept: error %d", e)
		}
	}
	if f.Queue[0].Counts != [4]int{2} || f.Queue[1].Counts != [4]int{2, 1} || f.Queue[0].Exit != 200 || f.Queue[1].Entry != 200 {
		t.Errorf("the queue is %v", f.Queue)
	}
	m, _ := pulse.Start(api.Block{Counts: [4]int{2, 1}, Accel: 50, Cruise: 100}, 100)
	made := map[int][4]int{}
	for tick := 1; tick <= 20; tick++ {
		var pulses [4]int
		if m, pulses = pulse.Tick(m, 100); pulses != [4]int{} {
			made[tick] = pulses
		}
	}
	if len(made) != 2 || made[10] != [4]int{1, 1} || made[20] != [4]int{1} {
		t.Errorf("the pulses are %v", made)
	}
	nozzle := world().Bench.Heaters[0]
	if got := thermal.Run(nozzle, 20000, []int{255}); !slices.Equal(got, []int{22805}) {
		t.Errorf("the nozzle has %v", got)
	}
}

// DOC.md, example 10.
func TestPowerFailure(t *testing.T) {
	f := homed(t, 100000, 200)
	memory, _ := flash.New(16)
	f.Line = 6
	f, e := firmware.Accept(f, 7, api.Cmd{Code: api.CoTravel, Has: api.HasX, X: 100})
	if e != api.OK {
		t.Fatalf("Accept: error %d", e)
	}
	for f.Pos[0] < 40 {
		f, memory, _, _ = power.Tick(f, memory, [2]int{20000, 20000})
	}
	fresh := world().Firmware
	on, e := power.Recover(fresh, power.Fail(f, memory))
	if e != api.OK || !on.Homed || on.Pos != [4]int{40} || on.Line != 7 || len(on.Queue) != 1 || on.Queue[0].Counts != [4]int{60} {
		t.Errorf("with the record, the firmware is %v, %d", on, e)
	}
	on, e = power.Recover(fresh, flash.Power(power.Fail(f, flash.Fail(memory, 0, 0))))
	if e != api.OK || on.Homed || on.Line != 6 || !on.Back || on.Return != [4]int{} {
		t.Errorf("without the record, the firmware is %v, %d", on, e)
	}
}
