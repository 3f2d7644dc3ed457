package printer

import (
	"math/rand"
	"testing"

	"additive/api"
	"additive/firmware"
	"additive/job"
	"additive/link"
	"additive/region"
	"additive/thermal"
)

// randomStep returns a step of any kind, few of which have errors.
func randomStep(random *rand.Rand, w api.World) api.Step {
	message := 0
	if len(w.Net) > 0 {
		message = random.Intn(len(w.Net) + 1)
	}
	switch random.Intn(24) {
	case 0, 1, 2:
		return step(api.WsSend)
	case 3, 4, 5, 6:
		return at(api.WsDeliver, message)
	case 7:
		return at(api.WsDrop, message)
	case 8:
		return at(api.WsDouble, message)
	case 9:
		return api.Step{Kind: api.WsSpoil, At: message, N: random.Intn(40) - 20}
	case 10:
		return step(api.WsTimeout)
	case 11, 12:
		return step(api.WsTicks, 1+random.Intn(400))
	case 13, 14, 15, 16:
		return step(api.WsRun, 1+random.Intn(900))
	case 17:
		return step(api.WsFeed, 1+random.Intn(60))
	case 18:
		return []api.Step{step(api.WsDoor, 1), step(api.WsDoor), step(api.WsDoor), step(api.WsSensor, random.Intn(2), random.Intn(2)), step(api.WsSensor, 0, 0), step(api.WsSensor, 0, 1)}[random.Intn(6)]
	case 19:
		return api.Step{Kind: api.WsOff, N: random.Intn(4), Keep: random.Intn(api.Page + 1)}
	case 20, 21:
		return step(api.WsOn)
	}
	return []api.Step{panel(api.CoHome), panel(api.CoHome), panel(api.CoReset), panel(api.CoReset), panel(api.CoPause), panel(api.CoResume), panel(api.CoResume), panel(api.CoStop), panel(api.CoDwell, 5), panel(api.CoNozzleW, 200000), panel(api.CoFan, 9)}[random.Intn(11)]
}

// checkWorld checks what holds in each world that steps have made.
func checkWorld(t *testing.T, w api.World, plan []api.Region) {
	t.Helper()
	if w.Power && w.Firmware.Homed && w.Bench.Real != w.Firmware.Pos {
		t.Fatalf("the position is %v, and the true one %v", w.Firmware.Pos, w.Bench.Real)
	}
	if w.Power && w.Device.Want != w.Firmware.Line+1 {
		t.Fatalf("the device wants line %d behind line %d", w.Device.Want, w.Firmware.Line)
	}
	for i, h := range w.Bench.Heaters {
		if temp := w.Bench.Temps[i]; temp < h.Ambient || temp > thermal.Top(h) {
			t.Fatalf("the temperature %d is %d", i, temp)
		}
	}
	for i, r := range w.Bench.Layers {
		if i >= len(plan) && len(r.Rows) > 0 || i < len(plan) && !region.Within(r, plan[i]) {
			t.Fatalf("layer %d has the material %v", i, r)
		}
	}
}

// checkLine checks that a line that is accepted is the next one of the program.
func checkLine(t *testing.T, before, w api.World, s api.Step) {
	t.Helper()
	if s.Kind != api.WsDeliver || before.Net[s.At].Back || w.Firmware.Line == before.Firmware.Line {
		return
	}
	n, text, e := link.Open(before.Net[s.At].Text)
	if e != api.OK || n != before.Firmware.Line+1 || w.Firmware.Line != n || text != w.Host.Lines[n-1] {
		t.Fatalf("line %d is accepted behind line %d: %q", w.Firmware.Line, before.Firmware.Line, text)
	}
}

// P58.4, P58.5, P58.6.
func TestAnyScript(t *testing.T) {
	random := rand.New(rand.NewSource(58))
	material, recovered, finished := 0, 0, 0
	for range 40 {
		w := do(t, fresh(), box(40, 40, 0, 40*(1+random.Intn(4)), 40*(1+random.Intn(3)), 20*(1+random.Intn(2))), step(api.WsSlice), step(api.WsFeed, 1000))
		_, _, ops, _ := job.Plan(w.Parts, w.Settings)
		plan := job.Made(ops)
		for range 250 {
			s := randomStep(random, w)
			next, e := Do(w, s)
			if e != api.OK {
				if s.Kind != api.WsPanel && !same(next, w) {
					t.Fatalf("step %v has the error %d, and changes the world", s, e)
				}
				continue
			}
			checkWorld(t, next, plan)
			checkLine(t, w, next, s)
			if s.Kind == api.WsOn && next.Firmware.Homed && len(next.Firmware.Queue) > 0 {
				recovered++
			}
			w = next
		}
		for _, r := range w.Bench.Layers {
			material += region.Count(r)
		}
		if w.Host.Base > len(w.Host.Lines) {
			finished++
		}
	}
	if material < 50 || recovered < 8 || finished < 10 {
		t.Errorf("only %d cells of material, %d motions resumed, %d programs finished", material, recovered, finished)
	}
}

// P58.5, P58.6: a print that is interrupted again and again ends with the same material.
func TestInterruptedPrint(t *testing.T) {
	random := rand.New(rand.NewSource(59))
	for range 6 {
		w := do(t, fresh(), box(40, 40, 0, 120, 80, 40), step(api.WsSlice), step(api.WsFeed, 100000))
		for n := 0; n < 400 && (w.Host.Base <= len(w.Host.Lines) || !firmware.Idle(w.Firmware)); n++ {
			w = do(t, w, step(api.WsRun, 1+random.Intn(300)))
			if random.Intn(3) > 0 {
				continue
			}
			line := w.Firmware.Line
			w = do(t, w, api.Step{Kind: api.WsOff, N: random.Intn(3), Keep: random.Intn(api.Page + 1)}, step(api.WsTicks, 1+random.Intn(50)), step(api.WsOn))
			if w.Firmware.Line > line {
				t.Fatalf("the program continues behind line %d, not %d", w.Firmware.Line, line)
			}
			// What was lost of the heating is said again.
			if !w.Firmware.Homed {
				w = do(t, w, panel(api.CoHome))
			}
			w, _ = Do(w, panel(api.CoBed, 60000))
			w, _ = Do(w, panel(api.CoNozzleW, 200000))
			for w.Firmware.Waits != 0 {
				w = do(t, w, step(api.WsTicks, 10))
			}
		}
		if w.Host.Base <= len(w.Host.Lines) || !firmware.Idle(w.Firmware) || len(w.Bench.Layers) != 2 || region.Count(w.Bench.Layers[0]) != 6 || region.Count(w.Bench.Layers[1]) != 6 {
			t.Errorf("the program stops at line %d with the material %v", w.Host.Base, w.Bench.Layers)
		}
	}
}

// P58.3.
func TestRun(t *testing.T) {
	l := []api.Step{box(40, 40, 0, 40, 40, 20), step(api.WsRun, 5), step(api.WsSlice), step(api.WsSlice), box(1, 1, 1, 1, 1, 1), step(99), step(api.WsRun, 7), step(api.WsTicks), panel(api.CoStop), panel(api.CoHome), step(api.WsOff), step(api.WsOff), step(api.WsOn)}
	w, e := Run(settings(), machine(), l)
	want := fresh()
	for _, s := range l {
		if next, e := Do(want, s); e == api.OK {
			want = next
		}
	}
	if e != api.OK || !same(w, want) || len(w.Flash.Pages) != 16 {
		t.Errorf("Run = %v, %d; want %v", w, e, want)
	}
}
