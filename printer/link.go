package printer

import (
	"additive/api"
	"additive/courier"
	"additive/deposit"
	"additive/gcode"
	"additive/link"
	"additive/power"
)

// sendLine lets the host send its next line; false if it can send none.
func (p *performer) sendLine() bool {
	if !p.validHost {
		return false
	}
	packet, sent := courier.Send(&p.Host)
	p.send(packet)
	return sent
}

// send puts a message into the net, in which it is lost if there are too many.
func (p *performer) send(packet api.Packet) {
	if packet != (api.Packet{}) && len(p.Net) < api.MaxMail {
		p.Net = append(p.Net, packet)
	}
}

// again lets the host go on with a line, if it has this line or the one before it.
func (p *performer) again(from int) {
	if p.validHost && within(from, 1, len(p.Host.Lines)+1) {
		courier.Again(&p.Host, from)
	}
}

// answer lets the host take an answer.
func (p *performer) answer(packet api.Packet) {
	if p.validHost {
		courier.Take(&p.Host, packet)
	}
}

// deliver delivers a message, or returns ErrNotFound.
func (p *performer) deliver(at int) api.Errno {
	packet, rest, e := link.Deliver(p.Net, at)
	if e != api.OK {
		return e
	}
	p.Net = rest
	switch {
	case packet.Back:
		p.answer(packet)
	case p.Power:
		p.receive(packet)
	}
	return api.OK
}

// receive lets the device receive a line, and the printer execute it.
func (p *performer) receive(packet api.Packet) {
	line := p.Device.Want
	_, text, reply, accepted := link.Receive(p.Device, packet)
	if accepted && !p.obey(line, text) {
		// To an empty line the device answers by asking for the line that it wants.
		_, _, reply, _ = link.Receive(p.Device, api.Packet{})
	}
	p.send(reply)
}

// obey lets the printer execute the command of a line; false if it is none, or refused.
func (p *performer) obey(line int, text string) bool {
	c, e := gcode.Parse(text)
	return e == api.OK && p.execute(line, c) == api.OK
}

// execute lets the printer execute a command with the number of a line, and returns the error for which it refuses it.
func (p *performer) execute(line int, c api.Cmd) api.Errno {
	before := p.Firmware.Pos
	next, memory, homed, e := power.Accept(p.Firmware, p.Flash, line, c)
	p.Firmware, p.Flash = next, memory
	if homed {
		p.Bench.Real = next.Pos
		if e != api.OK {
			p.Bench.Real = [api.Motors]int{3: before[3]}
		}
	}
	if e == api.OK {
		p.want()
	}
	return e
}

// tick lets a tick pass, with the power on or off.
func (p *performer) tick() {
	if !p.Power {
		p.heat([2]int{})
		return
	}
	next, memory, pulses, duties := power.Tick(p.Firmware, p.Flash, deposit.Readings(p.Bench))
	p.Firmware, p.Flash = next, memory
	// Without pulses, nothing changes on the bench.
	if pulses != [api.Motors]int{} {
		p.Bench = deposit.Pulse(p.Bench, p.Machine, p.Settings, pulses)
	}
	p.heat(duties)
	p.want()
}

// heat heats the bench, whose layers need not be copied for that.
func (p *performer) heat(duties [2]int) {
	b := p.Bench
	b.Layers = nil
	p.Bench.Temps = deposit.Heat(b, duties).Temps
}

// exchange lets the host send what it can, and delivers all messages; the host begins anew if no message was on its way before.
func (p *performer) exchange() {
	idle := len(p.Net) == 0
	for len(p.Net) < api.MaxMail && p.sendLine() {
	}
	for len(p.Net) > 0 {
		p.deliver(0)
	}
	if idle && p.Host.Base <= len(p.Host.Lines) {
		p.again(p.Host.Base)
	}
}
