package firmware

import (
	"slices"

	"additive/api"
	"additive/control"
	"additive/guard"
	"additive/pulse"
)

// Begin returns f, whose first block is in motion, and true; f itself and false if no block can begin.
func Begin(f api.Firmware) (api.Firmware, bool) {
	if !Valid(f) {
		return copied(f), false
	}
	return begin(copied(f))
}

// begin is Begin for a valid firmware with a queue of its own.
func begin(f api.Firmware) (api.Firmware, bool) {
	if f.Moving || len(f.Queue) == 0 || f.Mode == api.MoFault || f.Dwell > 0 {
		return f, false
	}
	// The blocks and the ticks are valid.
	f.Motion, _ = pulse.Start(f.Queue[0], f.Machine.Ticks)
	f.Moving, f.Active = true, f.Lines[0]
	f.Queue, f.Lines = slices.Clone(f.Queue[1:]), slices.Clone(f.Lines[1:])
	return f, true
}

// Tick returns f a tick later, the pulses of the motors, and the duties of the heaters; f itself and zeros if it is not valid.
func Tick(f api.Firmware, readings [2]int) (api.Firmware, [api.Motors]int, [2]int) {
	if !Valid(f) {
		return copied(f), position{}, [2]int{}
	}
	f, duties := heat(copied(f), readings)
	if f.Mode == api.MoFault {
		return f, position{}, [2]int{}
	}
	if f.Dwell > 0 {
		f.Dwell--
		return f, position{}, duties
	}
	f, _ = begin(f)
	f, pulses := advance(f)
	return f, pulses, duties
}

// heat performs the controls and the interlocks of a tick, and returns the duties.
func heat(f api.Firmware, readings [2]int) (api.Firmware, [2]int) {
	f.Readings = readings
	f.Ticks = min(f.Ticks+1, api.MaxCount)
	var duties [2]int
	tripped := false
	for i, reading := range readings {
		var wanted int
		f.Heaters[i], wanted = control.Step(f.Heaters[i], reading)
		before := f.Guards[i].Fault
		f.Guards[i], duties[i] = guard.Step(f.Guards[i], reading, f.Heaters[i].Target, wanted)
		tripped = tripped || f.Guards[i].Fault != before
	}
	if tripped {
		f = lost(f)
		f.Mode = api.MoFault
	}
	for i, reading := range readings {
		if reading >= f.Heaters[i].Target-f.Guards[i].Band {
			f.Waits &^= 1 << i
		}
	}
	return f, duties
}

// advance lets the motion go on for a tick, and returns its pulses.
func advance(f api.Firmware) (api.Firmware, position) {
	if !f.Moving {
		return f, position{}
	}
	var pulses position
	f.Motion, pulses = pulse.Tick(f.Motion, f.Machine.Ticks)
	f.Pos = plus(f.Pos, pulses)
	if pulse.Ended(f.Motion) {
		f.Motion, f.Moving, f.Active = api.Motion{}, false, 0
	}
	return f, pulses
}
