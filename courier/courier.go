// Package courier does the host's work on the link (layer 47) without checking the host again each time: its functions change a host that is known to be valid, and stays so. It also holds the texts that host and device exchange.
package courier

import (
	"slices"
	"strings"

	"additive/api"
	"additive/num"
	"additive/sum"
)

const maxLines = 1 << 16 // lines of a host

// The words of answers.
const (
	Ok     = "ok"
	Resend = "resend"
)

// Printable reports whether all bytes of a text are allowed in a line.
func Printable(text string) bool {
	for i := range len(text) {
		if text[i] < 32 || text[i] > 126 || text[i] == '*' {
			return false
		}
	}
	return true
}

// Sendable reports whether a text may be a line.
func Sendable(text string) bool {
	return len(text) <= api.MaxLine && Printable(text)
}

// sealed returns s with its checksum.
func sealed(s string) string {
	return s + "*" + num.Format(sum.Xor(s))
}

// Frame returns the frame of a number and a sendable text.
func Frame(n int, text string) string {
	return sealed("N" + num.Format(n) + " " + text)
}

// Reply returns the packet with an answer.
func Reply(word string, n int) api.Packet {
	return api.Packet{Back: true, Text: sealed(word + " " + num.Format(n))}
}

// readReply returns the word and the number of an answer; false if the text is none.
func readReply(text string) (string, int, bool) {
	body, _, _ := strings.Cut(text, "*")
	word, digits, _ := strings.Cut(body, " ")
	n, e := num.Parse(digits)
	known := word == Ok || word == Resend
	return word, n, known && e == api.OK && n >= 0 && n <= api.MaxCount+1 && Reply(word, n).Text == text
}

// Valid reports whether h is valid.
func Valid(h api.Host) bool {
	end := len(h.Lines) + 1
	window := h.Window >= 1 && h.Window <= api.MaxWindow
	counts := min(h.Sent, h.Resent) >= 0 && max(h.Sent, h.Resent) <= api.MaxCount
	place := h.Base >= 1 && h.Base <= end && h.Next >= h.Base && h.Next <= min(h.Base+h.Window, end)
	return window && counts && place && len(h.Lines) <= maxLines && AllSendable(h.Lines)
}

// AllSendable reports whether all texts may be lines.
func AllSendable(lines []string) bool {
	return !slices.ContainsFunc(lines, func(line string) bool { return !Sendable(line) })
}

// Send lets the host send its next line; false if it can send none.
func Send(h *api.Host) (api.Packet, bool) {
	if h.Next == h.Base+h.Window || h.Next > len(h.Lines) {
		return api.Packet{}, false
	}
	frame := Frame(h.Next, h.Lines[h.Next-1])
	h.Next++
	h.Sent = min(h.Sent+1, api.MaxCount)
	return api.Packet{Text: frame}, true
}

// Take lets the host take an answer; other packets change nothing.
func Take(h *api.Host, p api.Packet) {
	word, n, known := readReply(p.Text)
	if !p.Back || !known {
		return
	}
	switch {
	case word == Ok && n <= len(h.Lines):
		h.Base = max(h.Base, n+1)
		h.Next = max(h.Next, h.Base)
	case word == Resend && n >= 1 && n < h.Next:
		Again(h, n)
		h.Resent = min(h.Resent+1, api.MaxCount)
	}
}

// Again lets the host go on with the line with this number, or behind its last one.
func Again(h *api.Host, from int) {
	h.Base, h.Next = from, from
}
