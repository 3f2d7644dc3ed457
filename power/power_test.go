package power

import (
	"math/rand"
	"slices"
	"testing"

	"additive/api"
	"additive/firmware"
	"additive/flash"
	"additive/journal"
	"additive/kin"
)

func machine() api.Machine {
	m := api.Machine{Ticks: 1000}
	for i := range m.Axes {
		m.Axes[i] = api.Axis{Num: 2, Den: 1, Speed: 1000, Accel: 100000, Jerk: 200, Min: 0, Max: 20000}
	}
	return m
}

func newFirmware(m api.Machine) api.Firmware {
	c := api.Control{Kp: 10, Ki: 1, Scale: 1000, Limit: 255000}
	g := api.Guard{Low: 1000, High: 290000, Watch: 50, Rise: 500, Band: 10000, Idle: 5000}
	f, e := firmware.New(m, [2]api.Control{c, c}, [2]api.Guard{g, g}, 170000)
	if e != api.OK {
		panic("no firmware")
	}
	return f
}

func memory() api.Flash {
	l, _ := flash.New(4)
	return l
}

// move returns a travel to a position.
func move(x, y, z int) api.Cmd {
	return api.Cmd{Code: api.CoTravel, Has: api.HasX | api.HasY | api.HasZ, X: x, Y: y, Z: z}
}

func home() api.Cmd { return api.Cmd{Code: api.CoHome} }

func same(f, g api.Firmware) bool {
	if !slices.Equal(f.Queue, g.Queue) || !slices.Equal(f.Lines, g.Lines) {
		return false
	}
	f.Queue, f.Lines, g.Queue, g.Lines = nil, nil, nil, nil
	return f.Machine == g.Machine && f.Mode == g.Mode && f.Homed == g.Homed && f.Pos == g.Pos && f.At == g.At && f.E == g.E && f.Feed == g.Feed && f.Motion == g.Motion && f.Moving == g.Moving &&
		f.Active == g.Active && f.Back == g.Back && f.Return == g.Return && f.Dwell == g.Dwell && f.Waits == g.Waits && f.Heaters == g.Heaters && f.Guards == g.Guards && f.Fan == g.Fan && f.Line == g.Line &&
		f.Ticks == g.Ticks && f.Cold == g.Cold && f.Readings == g.Readings
}

func sameMemory(l, m api.Flash) bool {
	return slices.Equal(l.Pages, m.Pages) && l.Fuse == m.Fuse && l.Dead == m.Dead && l.Keep == m.Keep
}

// appended returns a memory with a record more.
func appended(t *testing.T, l api.Flash, r api.Record) api.Flash {
	t.Helper()
	last, _ := journal.Last(l)
	r.Seq = last.Seq + 1
	next, e := journal.Append(l, r)
	if e != api.OK {
		t.Fatalf("Append of %v: error %d", r, e)
	}
	return next
}

// do lets a firmware accept a command of the next line.
func do(t *testing.T, f api.Firmware, l api.Flash, c api.Cmd) (api.Firmware, api.Flash) {
	t.Helper()
	next, m, _, e := Accept(f, l, f.Line+1, c)
	if e != api.OK {
		t.Fatalf("Accept of %v: error %d", c, e)
	}
	return next, m
}

func ticks(f api.Firmware, l api.Flash, n int) (api.Firmware, api.Flash) {
	for range n {
		f, l, _, _ = Tick(f, l, [2]int{200000, 60000})
	}
	return f, l
}

// started returns a firmware that has done 40 of the 100 steps of line 7, with its memory.
func started(t *testing.T) (api.Firmware, api.Flash) {
	t.Helper()
	f, l := do(t, newFirmware(machine()), memory(), home())
	f.Line = 6
	f, l = do(t, f, l, move(50, 0, 0))
	for f.Pos[0] < 40 {
		f, l = ticks(f, l, 1)
	}
	return f, l
}

// P54.1: commands other than G28, and errors.
func TestAcceptOtherCommands(t *testing.T) {
	f, l := started(t)
	f, l = do(t, f, l, move(50, 9, 0))
	for _, q := range []struct {
		line int
		c    api.Cmd
	}{{8, move(5, 5, 5)}, {9, move(5, 5, 5)}, {0, api.Cmd{Code: api.CoStop}}, {8, api.Cmd{Code: api.CoPause}}, {9, move(5, 5, 5)}, {8, home()}, {8, api.Cmd{Code: api.CoReset}}, {8, api.Cmd{Code: 3}}, {8, api.Cmd{Code: api.CoHome, S: 1}}} {
		want, e := firmware.Accept(f, q.line, q.c)
		if e != api.OK {
			want = f
		}
		got, m, homed, wrong := Accept(f, l, q.line, q.c)
		if !same(got, want) || wrong != e || homed || !sameMemory(m, l) {
			t.Errorf("Accept of %v = %v, %v, %d; want %d", q.c, got, homed, wrong, e)
		}
		if len(got.Queue) > 0 {
			got.Queue[0].Accel = 5
		}
		m.Pages[0] = "x"
		if l.Pages[0] == "x" || len(f.Queue) > 0 && f.Queue[0].Accel == 5 {
			t.Fatal("the result shares memory with an argument")
		}
	}
}

// P54.1: homing, and what is recorded.
func TestAcceptHome(t *testing.T) {
	plain := newFirmware(machine())
	plain.Pos, plain.Line = position{1, 2, 3, 4}, 8
	back, homed := plain, plain
	back.Back, back.Return = true, position{5, 6, 7, 8}
	homed.Homed = true
	for i, q := range []struct {
		f    api.Firmware
		line int
		back position
	}{
		{plain, 9, position{0, 0, 0, 4}}, {plain, 0, position{0, 0, 0, 4}}, {back, 9, position{5, 6, 7, 4}}, {back, 0, position{5, 6, 7, 4}}, {homed, 9, position{0, 0, 0, 4}}, {homed, 0, position{1, 2, 3, 4}},
	} {
		want, e := firmware.Accept(q.f, q.line, home())
		if e != api.OK {
			t.Fatalf("case %d: error %d", i, e)
		}
		before := appended(t, memory(), api.Record{Kind: api.ReFail})
		one := appended(t, before, api.Record{Kind: api.ReBlock, Line: 9, From: q.back, To: q.back})
		two := appended(t, one, api.Record{Kind: api.ReHome, Line: want.Line, From: want.Pos, To: q.back})
		got, l, moved, e := Accept(q.f, before, q.line, home())
		if !same(got, want) || !sameMemory(l, two) || !moved || e != api.OK {
			t.Errorf("case %d: Accept = %v, %v, %d; want %v", i, got, moved, e, want)
		}
		// The first or the second record is torn, or there is no power at all.
		for keep := range api.Page {
			torn, _ := flash.Write(flash.Fail(before, 1, keep), 2, one.Pages[2])
			got, l, moved, e := Accept(q.f, flash.Fail(before, 1, keep), q.line, home())
			if !same(got, q.f) || !sameMemory(l, torn) || moved || e != api.ErrPower {
				t.Errorf("case %d: with the first record torn, Accept = %v, %v, %d", i, got, moved, e)
			}
			torn, _ = flash.Write(flash.Fail(one, 1, keep), 3, two.Pages[3])
			got, l, moved, e = Accept(q.f, flash.Fail(before, 2, keep), q.line, home())
			if !same(got, q.f) || !sameMemory(l, torn) || !moved || e != api.ErrPower {
				t.Errorf("case %d: with the second record torn, Accept = %v, %v, %d", i, got, moved, e)
			}
		}
		dead := flash.Fail(before, 0, 0)
		if got, l, moved, e := Accept(q.f, dead, q.line, home()); !same(got, q.f) || !sameMemory(l, dead) || moved || e != api.ErrPower {
			t.Errorf("case %d: without power, Accept = %v, %v, %d", i, got, moved, e)
		}
		if got, l, moved, e := Accept(q.f, api.Flash{}, q.line, home()); !same(got, q.f) || !sameMemory(l, api.Flash{}) || moved || e != api.ErrPower {
			t.Errorf("case %d: without a memory, Accept = %v, %v, %d", i, got, moved, e)
		}
	}
}

// P54.2.
func TestTick(t *testing.T) {
	f, l := do(t, newFirmware(machine()), memory(), home())
	f, l = do(t, f, l, move(50, 20, 0))
	f, l = do(t, f, l, move(50, 30, 10))
	returning := f
	returning.Lines, returning.Return, returning.Line = []int{0, 0}, position{9, 8, 7, 6}, 5
	mixed, first := f, f
	mixed.Lines, mixed.Return = []int{0, 3}, position{9, 8, 7, 6}
	first.Lines = []int{1, 3}
	for i, q := range []struct {
		f api.Firmware
		r api.Record
	}{
		{f, api.Record{Kind: api.ReBlock, Line: 2, To: position{100, 40}}},
		{returning, api.Record{Kind: api.ReBlock, Line: 6, From: position{9, 8, 7, 6}, To: position{9, 8, 7, 6}}},
		{first, api.Record{Kind: api.ReBlock, Line: 1, To: position{100, 40}}},
		{mixed, api.Record{Kind: api.ReBlock, Line: 3, From: position{9, 8, 7, 6}, To: position{9, 8, 7, 6}}},
	} {
		want, wantPulses, wantDuties := firmware.Tick(q.f, [2]int{200000, 60000})
		got, m, pulses, duties := Tick(q.f, l, [2]int{200000, 60000})
		if !same(got, want) || pulses != wantPulses || duties != wantDuties || !sameMemory(m, appended(t, l, q.r)) || !got.Moving {
			t.Errorf("case %d: Tick = %v, %v, %v", i, got, pulses, duties)
		}
		for n := range 2 {
			torn := flash.Fail(l, n, 9)
			got, m, pulses, duties := Tick(q.f, torn, [2]int{20000, 20000})
			if !same(got, q.f) || !m.Dead || pulses != (position{}) || duties != [2]int{} {
				t.Errorf("case %d: without power, Tick = %v, %v, %v", i, got, pulses, duties)
			}
		}
	}
	// Without a beginning block nothing is recorded.
	moving, l := ticks(f, l, 5)
	dead := flash.Fail(l, 0, 0)
	idle := newFirmware(machine())
	bad := f
	bad.Feed = -1
	for i, f := range []api.Firmware{moving, idle, bad, {}} {
		want, wantPulses, wantDuties := firmware.Tick(f, [2]int{190000, 50000})
		got, m, pulses, duties := Tick(f, dead, [2]int{190000, 50000})
		if !same(got, want) || !sameMemory(m, dead) || pulses != wantPulses || duties != wantDuties {
			t.Errorf("case %d: Tick = %v, %v, %v", i, got, pulses, duties)
		}
	}
}

// P54.3.
func TestFail(t *testing.T) {
	f, l := started(t)
	queued, _ := do(t, f, l, move(50, 9, 0))
	rest := queued
	rest.Moving, rest.Motion, rest.Active = false, api.Motion{}, 0
	back := f
	back.Active, back.Return, back.Line = 0, position{9, 8, 7, 6}, 12
	about := rest
	about.Lines, about.Return = []int{0}, position{9, 8, 7, 6}
	paused := rest
	paused.Mode = api.MoPause
	for i, q := range []struct {
		f api.Firmware
		r api.Record
	}{
		{f, api.Record{Kind: api.ReFail, Line: 7, Done: 40, From: position{40}, To: position{100}}},
		{queued, api.Record{Kind: api.ReFail, Line: 7, Done: 40, From: position{40}, To: position{100}}},
		{rest, api.Record{Kind: api.ReFail, Line: 7, From: position{40}, To: position{40}}},
		{paused, api.Record{Kind: api.ReFail, Line: 7, From: position{40}, To: position{40}}},
		{back, api.Record{Kind: api.ReHome, Line: 12, From: position{40}, To: position{9, 8, 7, 0}}},
		{about, api.Record{Kind: api.ReHome, Line: 8, From: position{40}, To: position{9, 8, 7, 0}}},
	} {
		if got := Fail(q.f, l); !sameMemory(got, appended(t, l, q.r)) {
			last, _ := journal.Last(got)
			t.Errorf("case %d: Fail records %v; want %v", i, last, q.r)
		}
		torn := Fail(q.f, flash.Fail(l, 1, 3))
		if last, _ := journal.Last(flash.Power(torn)); !torn.Dead || last.Kind != api.ReBlock {
			t.Errorf("case %d: a torn record: %v", i, last)
		}
		if dead := flash.Fail(l, 0, 0); !sameMemory(Fail(q.f, dead), dead) {
			t.Errorf("case %d: without power, Fail changes the memory", i)
		}
	}
	lost, _ := firmware.Accept(f, 0, api.Cmd{Code: api.CoStop})
	bad := f
	bad.Fan = -1
	for i, f := range []api.Firmware{lost, bad, newFirmware(machine()), {}} {
		if got := Fail(f, l); !sameMemory(got, l) {
			t.Errorf("unknown position %d: Fail changes the memory", i)
		}
	}
}

// P54.4: the example.
func TestExample(t *testing.T) {
	f, l := started(t)
	got, e := Recover(newFirmware(machine()), Fail(f, l))
	if e != api.OK || !got.Homed || got.Pos != (position{40}) || got.Line != 7 || len(got.Queue) != 1 || got.Queue[0].Counts != (position{60}) || got.Lines[0] != 7 || got.At != (api.Vec{X: 50}) || !firmware.Valid(got) {
		t.Errorf("Recover = %v, %d", got, e)
	}
	got, e = Recover(newFirmware(machine()), flash.Power(Fail(f, flash.Fail(l, 1, 63))))
	if e != api.OK || got.Homed || got.Line != 6 || !got.Back || got.Return != (position{}) || !firmware.Valid(got) {
		t.Errorf("Recover with a torn record = %v, %d", got, e)
	}
}

// P54.4: each kind of record.
func TestRecover(t *testing.T) {
	f := newFirmware(machine())
	add := func(f api.Firmware, line int, ways ...position) api.Firmware {
		// A homed firmware adds such blocks when it returns.
		g := newFirmware(machine())
		g.Back, g.Feed = true, f.Feed
		for _, w := range ways {
			g.Return = plus(g.Return, w)
		}
		if len(ways) == 1 && (ways[0][3] != 0 || ways[0][2] != 0 && (ways[0][0] != 0 || ways[0][1] != 0)) {
			// Not a way back: a move without a feed has the same plan.
			at, e, _ := kin.Position(f.Machine, ways[0])
			g.Back, g.Homed, g.Readings[0] = false, true, 200000
			for i := range g.Machine.Axes {
				g.Machine.Axes[i].Min = -20000
			}
			g, _ = firmware.Accept(g, 1, api.Cmd{Code: api.CoPrint, Has: 15, X: at.X, Y: at.Y, Z: at.Z, E: e})
		} else {
			g, _ = firmware.Accept(g, 1, home())
		}
		f.Queue, f.Lines = g.Queue, slices.Repeat([]int{line}, len(g.Queue))
		return f
	}
	for i, q := range []struct {
		r    api.Record
		want func(api.Firmware) api.Firmware
	}{
		{api.Record{Kind: api.ReBlock, Line: 7, From: position{1, 2, 3, 4}, To: position{5, 6, 7, 8}}, func(f api.Firmware) api.Firmware {
			f.Line, f.Pos, f.Return, f.Back, f.E = 6, position{1, 2, 3, 4}, position{1, 2, 3, 4}, true, 2
			return f
		}},
		{api.Record{Kind: api.ReBlock, Line: 0, From: position{3: 5}}, func(f api.Firmware) api.Firmware {
			f.Pos, f.Return, f.Back, f.E = position{3: 5}, position{3: 5}, true, 3
			return f
		}},
		{api.Record{Kind: api.ReFail, Line: 7, Done: 3, From: position{2, 4, 6, 8}, To: position{2, 4, 6, 8}}, func(f api.Firmware) api.Firmware {
			f.Homed, f.Line, f.Pos, f.At, f.E = true, 7, position{2, 4, 6, 8}, api.Vec{X: 1, Y: 2, Z: 3}, 4
			return f
		}},
		{api.Record{Kind: api.ReFail, Line: 7, Done: 3, From: position{2, 4, 6, 8}, To: position{10, 2, 6, 20}}, func(f api.Firmware) api.Firmware {
			f.Homed, f.Line, f.Pos, f.At, f.E = true, 7, position{2, 4, 6, 8}, api.Vec{X: 5, Y: 1, Z: 3}, 10
			return add(f, 7, position{8, -2, 0, 12})
		}},
		{api.Record{Kind: api.ReHome, Line: 7, From: position{0, 0, 0, 9}, To: position{2, 4, 6, 8}}, func(f api.Firmware) api.Firmware {
			f.Homed, f.Line, f.Pos, f.At, f.E, f.Return = true, 7, position{0, 0, 0, 9}, api.Vec{X: 1, Y: 2, Z: 3}, 4, position{2, 4, 6, 8}
			return add(f, 0, position{2: 6}, position{2, 4})
		}},
		{api.Record{Kind: api.ReHome, Line: 7, From: position{1, 2, 6, 8}, To: position{2, 2, 6, 8}}, func(f api.Firmware) api.Firmware {
			f.Homed, f.Line, f.Pos, f.At, f.E, f.Return = true, 7, position{1, 2, 6, 8}, api.Vec{X: 1, Y: 1, Z: 3}, 4, position{2, 2, 6, 8}
			return add(f, 0, position{1})
		}},
		{api.Record{Kind: api.ReHome, Line: 0, From: position{2, 2, 6, 8}, To: position{2, 2, 6, 9}}, func(f api.Firmware) api.Firmware {
			f.Homed, f.Pos, f.At, f.E, f.Return = true, position{2, 2, 6, 8}, api.Vec{X: 1, Y: 1, Z: 3}, 5, position{2, 2, 6, 9}
			return f
		}},
	} {
		got, e := Recover(f, appended(t, memory(), q.r))
		if want := q.want(f); !same(got, want) || e != api.OK || !firmware.Valid(got) {
			t.Errorf("case %d: Recover = %v, %d; want %v", i, got, e, want)
		}
	}
	if got, e := Recover(f, memory()); !same(got, f) || e != api.OK {
		t.Errorf("Recover without a record = %v, %d", got, e)
	}
}

// P54.4: the errors, in their order.
func TestRecoverErrors(t *testing.T) {
	const far = 1<<24 + 1
	f := newFirmware(machine())
	record := func(from, to position) api.Flash {
		return appended(t, memory(), api.Record{Kind: api.ReFail, From: from, To: to})
	}
	busy, _ := started(t)
	homed, dwelling, bad := f, f, f
	homed.Homed, dwelling.Dwell, bad.Fan = true, 1, -1
	dead := flash.Fail(record(position{far}, position{}), 0, 0)
	for i, q := range []struct {
		f api.Firmware
		l api.Flash
		e api.Errno
	}{
		{f, record(position{far - 1}, position{}), api.OK}, {f, record(position{far}, position{}), api.ErrCorrupt}, {f, record(position{}, position{0, -far}), api.ErrCorrupt}, {f, record(position{2: 1 << 23}, position{2: -1<<23 - 1}), api.ErrCorrupt},
		{f, record(position{2: 1 << 23}, position{2: -1 << 23}), api.OK}, {f, record(position{3: -1 << 31}, position{3: -1 << 31}), api.ErrCorrupt}, {f, record(position{far - 1}, position{far}), api.ErrCorrupt}, {f, record(position{-far}, position{1 - far}), api.ErrCorrupt}, {f, dead, api.ErrPower}, {f, flash.Fail(memory(), 0, 0), api.ErrPower},
		{homed, dead, api.ErrArg}, {dwelling, dead, api.ErrArg}, {bad, dead, api.ErrArg}, {busy, memory(), api.ErrArg}, {api.Firmware{}, memory(), api.ErrArg}, {f, api.Flash{}, api.ErrArg},
	} {
		if got, e := Recover(q.f, q.l); e != q.e || e != api.OK && !same(got, api.Firmware{}) {
			t.Errorf("case %d: Recover = %v, %d; want %d", i, got, e, q.e)
		}
	}
}

// P54.5, P54.6: any sequence of commands, ticks, failures at any write, torn at any byte, and recoveries.
func TestAnyFailure(t *testing.T) {
	random := rand.New(rand.NewSource(54))
	known, unknown, interrupted := 0, 0, 0
	for range 300 {
		m := machine()
		m.CoreXY = random.Intn(2) == 0
		f, l := newFirmware(m), memory()
		real := position{random.Intn(99), random.Intn(99), random.Intn(99)}
		for range 60 {
			line := f.Line + 1
			c := move(random.Intn(40), random.Intn(40), random.Intn(10))
			if random.Intn(3) == 0 {
				c = api.Cmd{Code: api.CoPrint, Has: api.HasE, E: random.Intn(40)}
			}
			switch random.Intn(9) {
			case 0:
				c, line = home(), line*random.Intn(2)
			case 1:
				c, line = []api.Cmd{{Code: api.CoStop}, {Code: api.CoReset}}[random.Intn(2)], 0
			}
			if !f.Homed && f.Mode == api.MoRun && random.Intn(2) == 0 {
				c = home()
			}
			next, memory, homed, e := Accept(f, l, line, c)
			if homed {
				real = withExtruder(position{}, f.Pos)
				if e == api.OK && next.Pos != real {
					t.Fatalf("after homing the position is %v, and the true one is %v", next.Pos, real)
				}
			}
			f, l = next, memory
			for range random.Intn(60) {
				var pulses position
				f, l, pulses, _ = Tick(f, l, [2]int{200000, 200000})
				real = plus(real, pulses)
			}
			if random.Intn(12) == 0 {
				l = flash.Fail(l, 1+random.Intn(3), random.Intn(api.Page+1))
			}
			if !l.Dead && random.Intn(12) > 0 {
				continue
			}
			recovered := recoverFrom(t, f, l, random)
			if recovered.Homed {
				known++
			} else {
				unknown++
			}
			if recovered.Homed && recovered.Pos != real {
				t.Fatalf("%v is recovered as %v; the true position is %v", f, recovered, real)
			}
			if len(recovered.Queue) > 0 {
				interrupted++
			}
			f, l = recovered, flash.Power(l)
		}
	}
	if known < 100 || unknown < 100 || interrupted < 50 {
		t.Errorf("%d times the position was known, %d times it was not, and %d motions were resumed", known, unknown, interrupted)
	}
}

// recoverFrom lets the power of a firmware fail and come back, and checks what is recovered.
func recoverFrom(t *testing.T, f api.Firmware, l api.Flash, random *rand.Rand) api.Firmware {
	t.Helper()
	if random.Intn(2) == 0 {
		l = flash.Fail(l, random.Intn(3), random.Intn(api.Page+1))
	}
	before, _ := journal.Last(flash.Power(l))
	failed := Fail(f, l)
	// A record that was torn behind its last byte is complete.
	last, _ := journal.Last(flash.Power(failed))
	recorded := last.Seq == before.Seq+1
	if !failed.Dead && recorded != f.Homed {
		t.Fatalf("Fail of %v records %v", f, last)
	}
	got, e := Recover(newFirmware(f.Machine), flash.Power(failed))
	if e != api.OK || !firmware.Valid(got) {
		t.Fatalf("Recover = %v, %d", got, e)
	}
	open := firstOpen(f)
	if f.Moving && f.Active > 0 {
		open = f.Active
		if recorded {
			open++
		}
	}
	if got.Line+1 > open {
		t.Fatalf("%v is recovered with line %d", f, got.Line)
	}
	if !recorded {
		return got
	}
	goal := firmware.Goal(got)
	want := f.Pos
	switch {
	case returns(f):
		want = withExtruder(f.Return, f.Pos)
	case f.Moving:
		f.Queue, f.Lines = nil, nil
		want = firmware.Goal(f)
	}
	if !got.Homed || goal != want {
		t.Fatalf("%v is recovered as %v with the goal %v; want %v", f, got, goal, want)
	}
	return got
}
