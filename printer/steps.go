package printer

import (
	"additive/api"
	"additive/flash"
	"additive/gcode"
	"additive/guard"
	"additive/job"
	"additive/link"
	"additive/power"
	"additive/shapes"
)

const (
	maxParts    = 16
	maxTicks    = 10000 // of a step
	maxFeed     = 1 << 24
	maxFilament = 1 << 40
	maxFuse     = 10 // the operation of flash that fails in a step
)

// perform performs a step, and returns its error.
func (p *performer) perform(s api.Step) api.Errno {
	switch s.Kind {
	case api.WsPart:
		return p.part(s)
	case api.WsSlice:
		return p.slice()
	case api.WsSend, api.WsDeliver, api.WsDrop, api.WsDouble, api.WsSpoil, api.WsTimeout:
		return p.transfer(s)
	case api.WsTicks:
		return p.ticks(s)
	case api.WsDoor:
		return p.door(s)
	case api.WsSensor:
		return p.sensor(s)
	case api.WsFeed:
		return p.feed(s)
	case api.WsOff:
		return p.off(s)
	case api.WsOn:
		return p.on()
	case api.WsPanel:
		return p.panel(s)
	case api.WsRun:
		return p.run(s)
	}
	return api.ErrUnknown
}

// within reports whether n is from low to high.
func within(n, low, high int) bool {
	return low <= n && n <= high
}

func (p *performer) part(s api.Step) api.Errno {
	if p.hasProgram() {
		return api.ErrState
	}
	m, e := shape(s.Name, s.Numbers)
	if e != api.OK {
		return e
	}
	if len(p.Parts) >= maxParts {
		return api.ErrFull
	}
	p.Parts = append(p.Parts, m)
	return api.OK
}

// shape returns the solid with a name and its parameters; or ErrUnknown, ErrArg, or the error of shapes.
func shape(name string, n []int) (api.Mesh, api.Errno) {
	switch name {
	case "box":
		if len(n) != 6 {
			return api.Mesh{}, api.ErrArg
		}
		return shapes.Box(api.Vec{X: n[0], Y: n[1], Z: n[2]}, api.Vec{X: n[3], Y: n[4], Z: n[5]})
	case "prism":
		if len(n) < 2 || len(n)%2 != 0 {
			return api.Mesh{}, api.ErrArg
		}
		return shapes.Prism(points(n[2:]), n[0], n[1])
	case "pyramid":
		if len(n) < 4 || len(n)%2 != 0 {
			return api.Mesh{}, api.ErrArg
		}
		return shapes.Pyramid(points(n[4:]), n[0], api.Vec{X: n[1], Y: n[2], Z: n[3]})
	}
	return api.Mesh{}, api.ErrUnknown
}

// points returns the points whose coordinates are given in pairs.
func points(n []int) []api.Pt {
	var l []api.Pt
	for i := 0; i+1 < len(n); i += 2 {
		l = append(l, api.Pt{X: n[i], Y: n[i+1]})
	}
	return l
}

func (p *performer) slice() api.Errno {
	if p.hasProgram() || len(p.Parts) == 0 {
		return api.ErrState
	}
	program, slices, e := job.Program(p.Parts, p.Settings, p.Machine)
	if e != api.OK {
		return e
	}
	var lines []string
	for _, c := range program {
		// All commands of a program are valid, and their lines can be sent.
		line, _ := gcode.Print(c)
		lines = append(lines, line)
	}
	p.Program, p.Slices = program, slices
	p.Host, _ = link.Start(lines, window)
	p.validHost = true
	return api.OK
}

// transfer performs the steps of the host and of the net.
func (p *performer) transfer(s api.Step) api.Errno {
	net, e := p.Net, api.OK
	switch s.Kind {
	case api.WsSend:
		if !p.sendLine() {
			return api.ErrState
		}
		return api.OK
	case api.WsTimeout:
		if !p.hasProgram() {
			return api.ErrState
		}
		p.again(p.Host.Base)
		return api.OK
	case api.WsDeliver:
		return p.deliver(s.At)
	case api.WsDrop:
		_, net, e = link.Deliver(p.Net, s.At)
	case api.WsDouble:
		net, e = link.Double(p.Net, s.At)
	case api.WsSpoil:
		net, e = link.Spoil(p.Net, s.At, s.N)
	}
	if e == api.OK {
		p.Net = net
	}
	return e
}

func (p *performer) ticks(s api.Step) api.Errno {
	if !within(s.N, 1, maxTicks) {
		return api.ErrArg
	}
	for range s.N {
		p.tick()
	}
	return api.OK
}

func (p *performer) door(s api.Step) api.Errno {
	if !within(s.N, 0, 1) {
		return api.ErrArg
	}
	p.Bench.Door = s.N == 1
	if p.Power {
		for i, g := range p.Firmware.Guards {
			p.Firmware.Guards[i] = guard.Door(g, p.Bench.Door)
		}
	}
	return api.OK
}

func (p *performer) sensor(s api.Step) api.Errno {
	if !within(s.At, 0, 1) || !within(s.N, 0, 1) {
		return api.ErrArg
	}
	p.Bench.Broken[s.At] = s.N == 1
	return api.OK
}

func (p *performer) feed(s api.Step) api.Errno {
	if !within(s.N, 1, maxFeed) || p.Bench.Filament > maxFilament-s.N {
		return api.ErrArg
	}
	p.Bench.Filament += s.N
	return api.OK
}

func (p *performer) off(s api.Step) api.Errno {
	if !p.Power {
		return api.ErrState
	}
	if !within(s.N, 0, maxFuse) || !within(s.Keep, 0, api.Page) {
		return api.ErrArg
	}
	p.Flash = power.Fail(p.Firmware, flash.Fail(p.Flash, s.N, s.Keep))
	p.Power, p.Firmware, p.Device = false, api.Firmware{}, api.Device{}
	return api.OK
}

func (p *performer) on() api.Errno {
	if p.Power {
		return api.ErrState
	}
	p.Flash, p.Power = flash.Power(p.Flash), true
	p.boot()
	p.Net = nil
	if p.hasProgram() {
		p.again(p.Device.Want)
	}
	return api.OK
}

func (p *performer) panel(s api.Step) api.Errno {
	if !p.Power {
		return api.ErrState
	}
	if !gcode.Valid(s.Cmd) || s.Cmd.Code == api.CoTravel || s.Cmd.Code == api.CoPrint {
		return api.ErrArg
	}
	return p.execute(0, s.Cmd)
}

func (p *performer) run(s api.Step) api.Errno {
	if !within(s.N, 1, maxTicks) {
		return api.ErrArg
	}
	if !p.hasProgram() {
		return api.ErrState
	}
	for range s.N {
		p.exchange()
		p.tick()
	}
	return api.OK
}
