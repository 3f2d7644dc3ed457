package firmware

import (
	"additive/ahead"
	"additive/api"
	"additive/control"
	"additive/gcode"
	"additive/guard"
	"additive/kin"
	"additive/limits"
	"additive/num"
)

// Bits of heaters for which the firmware waits.
const (
	waitNozzle = 1
	waitBed    = 2
)

const (
	nozzle = 0 // the index of its heater
	bed    = 1
)

// Accept returns f after it has accepted a command with the number of a line (0: of the operator); or the error for which it refuses it.
func Accept(f api.Firmware, line int, c api.Cmd) (api.Firmware, api.Errno) {
	if !Valid(f) || !gcode.Valid(c) || line != 0 && line != f.Line+1 || line > api.MaxCount {
		return api.Firmware{}, api.ErrArg
	}
	s := state{Firmware: copied(f), line: line}
	if line != 0 {
		s.Line = line
	}
	if e := effect(c.Code)(&s, c); e != api.OK {
		return api.Firmware{}, e
	}
	for i, g := range s.Guards {
		s.Guards[i] = guard.Touch(g)
	}
	return s.Firmware, api.OK
}

// state is a firmware that executes a command.
type state struct {
	api.Firmware
	line int // the number of the command's line
}

// effect returns what a command with a code does to the state; it returns the error for which the command is refused.
func effect(code int) func(*state, api.Cmd) api.Errno {
	switch code {
	case api.CoStop:
		return (*state).stop
	case api.CoReset:
		return (*state).reset
	case api.CoPause, api.CoResume:
		return (*state).pause
	case api.CoTravel, api.CoPrint:
		return (*state).move
	case api.CoDwell:
		return (*state).dwell
	case api.CoHome:
		return (*state).home
	case api.CoFan, api.CoFanOff:
		return (*state).fan
	}
	return (*state).heat
}

func (s *state) stop(api.Cmd) api.Errno {
	for i, g := range s.Guards {
		s.Guards[i] = guard.Stop(g)
	}
	s.Firmware = lost(s.Firmware)
	s.Mode = api.MoFault
	return api.OK
}

func (s *state) reset(api.Cmd) api.Errno {
	if s.Mode != api.MoFault {
		return api.ErrState
	}
	for i, g := range s.Guards {
		if g.Fault == 0 {
			continue
		}
		cleared, e := guard.Reset(g, s.Readings[i])
		if e != api.OK {
			return api.ErrFault
		}
		s.Guards[i] = cleared
	}
	s.Mode = api.MoRun
	return api.OK
}

func (s *state) pause(c api.Cmd) api.Errno {
	from, to := api.MoRun, api.MoPause
	if c.Code == api.CoResume {
		from, to = to, from
	}
	switch s.Mode {
	case api.MoFault:
		return api.ErrFault
	case from:
		s.Mode = to
		return api.OK
	}
	return api.ErrState
}

// ready returns the error for which all other commands are refused at present.
func (s *state) ready() api.Errno {
	if s.Mode == api.MoFault {
		return api.ErrFault
	}
	if s.Waits != 0 || s.Dwell != 0 {
		return api.ErrFull
	}
	return api.OK
}

func (s *state) dwell(c api.Cmd) api.Errno {
	if e := s.ready(); e != api.OK {
		return e
	}
	if !idle(s.Firmware) {
		return api.ErrFull
	}
	s.Dwell = c.S
	return api.OK
}

func (s *state) fan(c api.Cmd) api.Errno {
	if e := s.ready(); e != api.OK {
		return e
	}
	// The command that switches the fan off has no S.
	s.Fan = c.S
	return api.OK
}

func (s *state) heat(c api.Cmd) api.Errno {
	if e := s.ready(); e != api.OK {
		return e
	}
	heater, wait := nozzle, waitNozzle
	if c.Code == api.CoBed || c.Code == api.CoBedW {
		heater, wait = bed, waitBed
	}
	// The target of a valid command can be aimed at.
	s.Heaters[heater], _ = control.Aim(s.Heaters[heater], c.S)
	if c.Code == api.CoNozzleW || c.Code == api.CoBedW {
		s.Waits |= wait
	}
	return api.OK
}

func (s *state) move(c api.Cmd) api.Errno {
	if e := s.ready(); e != api.OK {
		return e
	}
	if s.line == 0 || !s.Homed || s.Back || s.Mode != api.MoRun {
		return api.ErrState
	}
	at, e := s.target(c)
	motors, wrong := kin.Motors(s.Machine, at, e)
	if !kin.Inside(s.Machine, at) || wrong != api.OK {
		return api.ErrRange
	}
	if e > s.E && s.Readings[nozzle] < s.Cold {
		return api.ErrCold
	}
	counts := minus(motors, goal(s.Firmware))
	if !near(motors) || !near(counts) {
		return api.ErrLimit
	}
	if c.Has&api.HasF != 0 {
		s.Feed = c.F
	}
	length := distance(s.At, at)
	if length == 0 {
		length = max(e-s.E, s.E-e)
	}
	s.At, s.E = at, e
	if counts == (position{}) {
		return api.OK
	}
	if len(s.Queue) == api.MaxBlocks {
		return api.ErrFull
	}
	return s.add(counts, length, s.line)
}

// target returns the position to which a command moves.
func (s *state) target(c api.Cmd) (api.Vec, int) {
	at, e := s.At, s.E
	for _, word := range []struct {
		bit, number int
		place       *int
	}{{api.HasX, c.X, &at.X}, {api.HasY, c.Y, &at.Y}, {api.HasZ, c.Z, &at.Z}, {api.HasE, c.E, &e}} {
		if c.Has&word.bit != 0 {
			*word.place = word.number
		}
	}
	return at, e
}

// distance returns the distance of two positions in space, rounded down.
func distance(a, b api.Vec) int {
	dx, dy, dz := b.X-a.X, b.Y-a.Y, b.Z-a.Z
	// The coordinates are so small that the sum is not negative.
	length, _ := num.Isqrt(dx*dx + dy*dy + dz*dz)
	return length
}

// add appends a block to the queue, and plans the queue anew.
func (s *state) add(counts position, length, line int) api.Errno {
	speed := limits.Speed(s.Machine, counts, length, s.Feed)
	entry := 0
	switch {
	case s.Moving:
		entry = s.Motion.Block.Exit
	case len(s.Queue) > 0:
		entry = s.Queue[0].Entry
	}
	queue := append(s.Queue, api.Block{Counts: counts, Accel: limits.Accel(s.Machine, counts), Cruise: speed * speed})
	caps := make([]int, len(queue))
	for i := 1; i < len(queue); i++ {
		junction := limits.Junction(s.Machine, queue[i-1].Counts, queue[i].Counts)
		caps[i] = junction * junction
	}
	planned, e := ahead.Plan(queue, caps, entry)
	if e != api.OK {
		return api.ErrLimit
	}
	s.Queue, s.Lines = planned, append(s.Lines, line)
	return api.OK
}

func (s *state) home(api.Cmd) api.Errno {
	if e := s.ready(); e != api.OK {
		return e
	}
	if !idle(s.Firmware) {
		return api.ErrFull
	}
	if s.Mode != api.MoRun {
		return api.ErrState
	}
	if s.line == 0 && s.Homed {
		s.Return, s.Back = s.Pos, true
	}
	s.Pos = position{3: s.Pos[3]}
	s.Homed = true
	s.At = api.Vec{}
	// Positions of a valid firmware are in the range of Units and Position.
	s.E, _ = kin.Units(s.Machine, 3, s.Pos[3])
	if !s.Back {
		return api.OK
	}
	s.Back = false
	return s.goBack()
}

// goBack adds the motions from the position 0 of the axes to the place to return to: first upward, and then above it.
func (s *state) goBack() api.Errno {
	for _, counts := range []position{{2: s.Return[2]}, {0: s.Return[0], 1: s.Return[1]}} {
		if counts == (position{}) {
			continue
		}
		if e := s.add(counts, 0, 0); e != api.OK {
			return e
		}
	}
	s.At, _, _ = kin.Position(s.Machine, s.Return)
	return api.OK
}
