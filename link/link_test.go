package link

import (
	"math"
	"math/rand"
	"slices"
	"strconv"
	"strings"
	"testing"

	"additive/api"
	"additive/courier"
)

// check returns a text with the XOR of its bytes.
func check(s string) string {
	x := 0
	for _, b := range []byte(s) {
		x ^= int(b)
	}
	return s + "*" + strconv.Itoa(x)
}

func back(text string) api.Packet { return api.Packet{Back: true, Text: check(text)} }

func sent(n int, text string) api.Packet {
	return api.Packet{Text: check("N" + strconv.Itoa(n) + " " + text)}
}

func same(g, h api.Host) bool {
	return slices.Equal(g.Lines, h.Lines) && g.Base == h.Base && g.Next == h.Next && g.Window == h.Window && g.Resent == h.Resent && g.Sent == h.Sent
}

// host returns a host with three lines.
func host(base, next, window int) api.Host {
	return api.Host{Lines: []string{"a", "b", "c"}, Base: base, Next: next, Window: window}
}

func count(h api.Host, sent, resent int) api.Host {
	h.Sent, h.Resent = sent, resent
	return h
}

// invalidHosts are hosts that are not valid, each for another reason.
func invalidHosts() []api.Host {
	star, long, many := host(1, 1, 4), host(1, 1, 4), host(1, 1, 4)
	star.Lines[2] = "*"
	long.Lines[1] = strings.Repeat("x", 97)
	many.Lines = make([]string, 1<<16+1)
	return []api.Host{
		{}, star, long, many, host(1, 1, 0), host(1, 1, 9), host(0, 1, 4), host(5, 5, 4), host(2, 1, 4), host(1, 4, 2), host(1, 5, 8), host(math.MinInt, 1, 4), host(1, 1, math.MaxInt), host(1, math.MaxInt, 4),
		count(host(1, 1, 4), -1, 0), count(host(1, 1, 4), 0, -1), count(host(1, 1, 4), api.MaxCount+1, 0), count(host(1, 1, 4), 0, api.MaxCount+1),
	}
}

// P47.1, P47.2.
func TestFrame(t *testing.T) {
	const most = api.MaxCount
	full := strings.Repeat("~", 96)
	for _, q := range []struct {
		n    int
		text string
		want string
		e    api.Errno
	}{
		{3, "G28", "N3 G28*16", api.OK}, {1, "", check("N1 "), api.OK}, {most, full, check("N1099511627776 " + full), api.OK}, {7, " a  b ", check("N7  a  b "), api.OK},
		{0, "G28", "", api.ErrArg}, {-1, "G28", "", api.ErrArg}, {most + 1, "G28", "", api.ErrArg}, {math.MinInt, "", "", api.ErrArg}, {math.MaxInt, full + "x", "", api.ErrArg},
		{1, "a*b", "", api.ErrArg}, {1, "a\x1fb", "", api.ErrArg}, {1, "\x7f", "", api.ErrArg}, {1, "\xc3\xa4", "", api.ErrArg}, {1, "a\n", "", api.ErrArg},
		{1, full + "x", "", api.ErrLimit}, {1, full + "*", "", api.ErrArg}, {0, full + "x", "", api.ErrArg},
	} {
		got, e := Frame(q.n, q.text)
		if got != q.want || e != q.e {
			t.Errorf("Frame(%d, %q) = %q, %d; want %q, %d", q.n, q.text, got, e, q.want, q.e)
		}
		if e != api.OK {
			continue
		}
		if n, text, e := Open(got); n != q.n || text != q.text || e != api.OK {
			t.Errorf("Open(%q) = %d, %q, %d", got, n, text, e)
		}
	}
}

// P47.2.
func TestOpenErrors(t *testing.T) {
	for s, want := range map[string]api.Errno{
		"N3 G28*18": api.ErrChecksum, "N3 G28*0": api.ErrChecksum, "N3 G28*255": api.ErrChecksum, "N3 G29*16": api.ErrChecksum, "N4 G28*16": api.ErrChecksum, "N3  G28*16": api.ErrChecksum,
		"N03 G28*18": api.ErrSyntax, "N3 G28*016": api.ErrSyntax, "N3 G28*256": api.ErrSyntax, "N3 G28*-16": api.ErrSyntax, "N3 G28*": api.ErrSyntax, "N3 G28": api.ErrSyntax, "N3 G28*16 ": api.ErrSyntax, "N3 G28*16*": api.ErrSyntax,
		"N3 G28**16": api.ErrSyntax, "n3 G28*48": api.ErrSyntax, "3 G28*94": api.ErrSyntax, " N3 G28*48": api.ErrSyntax, "N3G28*48": api.ErrSyntax, "N G28*35": api.ErrSyntax, "N-3 G28*61": api.ErrSyntax, "": api.ErrSyntax, "*": api.ErrSyntax, "N": api.ErrSyntax, "N3": api.ErrSyntax,
		"N3*125": api.ErrSyntax, check("N0 G28"): api.ErrSyntax, check("N1099511627777 G28"): api.ErrSyntax, check("N99999999999999999999 G28"): api.ErrSyntax, check("N3 a\tb"): api.ErrSyntax, check("N3 \xff"): api.ErrSyntax,
		check("N3 " + strings.Repeat("x", 97)): api.ErrSyntax, "N3 G28*1\u0666": api.ErrSyntax, check("N\u0663 G28"): api.ErrSyntax, "N3 G28*99999999999999999999": api.ErrSyntax, check("N+3 G28"): api.ErrSyntax, check("N18446744073709551619 G28"): api.ErrSyntax, "N3 G28*18446744073709551632": api.ErrSyntax, "N3 G28*+16": api.ErrSyntax, "\xff\xfe": api.ErrSyntax,
	} {
		if n, text, e := Open(s); n != 0 || text != "" || e != want {
			t.Errorf("Open(%q) = %d, %q, %d; want %d", s, n, text, e, want)
		}
	}
}

// P47.9: each byte of frames and of answers, changed to each other value.
func TestEachByte(t *testing.T) {
	for _, s := range []string{check("N3 G28"), check("N1099511627776 G1 X10 Y-5"), check("N10 "), check("N9 0")} {
		for i := range len(s) {
			for b := range 256 {
				changed := []byte(s)
				changed[i] = byte(b)
				if _, _, e := Open(string(changed)); (e == api.OK) != (string(changed) == s) {
					t.Errorf("Open(%q) and Open(%q) have no error", s, changed)
				}
			}
		}
	}
	h := host(1, 4, 8)
	for _, s := range []string{check("ok 2"), check("resend 2"), check("resend 3")} {
		for i := range len(s) {
			for b := range 256 {
				changed := []byte(s)
				changed[i] = byte(b)
				if got := Answer(h, api.Packet{Back: true, Text: string(changed)}); same(got, h) == (string(changed) == s) {
					t.Errorf("the answers %q and %q give %v", s, changed, got)
				}
			}
		}
	}
}

// P47.3.
func TestStart(t *testing.T) {
	lines := []string{"a", "b"}
	got, e := Start(lines, 8)
	if !same(got, api.Host{Lines: lines, Base: 1, Next: 1, Window: 8}) || e != api.OK {
		t.Errorf("Start = %v, %d", got, e)
	}
	got.Lines[0] = "x"
	if lines[0] != "a" {
		t.Error("the host shares its lines")
	}
	many := make([]string, 1<<16+1)
	bad := append(slices.Clone(many), "*")
	for _, q := range []struct {
		lines  []string
		window int
		e      api.Errno
	}{
		{nil, 1, api.OK}, {many[1:], 1, api.OK}, {nil, 0, api.ErrArg}, {nil, 9, api.ErrArg}, {nil, math.MinInt, api.ErrArg}, {[]string{"a*"}, 4, api.ErrArg}, {[]string{"a", strings.Repeat("x", 97)}, 4, api.ErrArg},
		{many, 4, api.ErrLimit}, {many, 0, api.ErrArg}, {bad, 4, api.ErrArg},
	} {
		if got, e := Start(q.lines, q.window); e != q.e || e != api.OK && !same(got, api.Host{}) {
			t.Errorf("Start of %d lines = error %d; want %d", len(q.lines), e, q.e)
		}
	}
}

// P47.4.
func TestSend(t *testing.T) {
	for _, q := range []struct {
		h, want api.Host
		p       api.Packet
		ok      bool
	}{
		{host(1, 1, 2), count(host(1, 2, 2), 1, 0), sent(1, "a"), true}, {host(1, 2, 2), count(host(1, 3, 2), 1, 0), sent(2, "b"), true}, {host(1, 3, 2), host(1, 3, 2), api.Packet{}, false},
		{host(3, 3, 8), count(host(3, 4, 8), 1, 0), sent(3, "c"), true}, {host(3, 4, 8), host(3, 4, 8), api.Packet{}, false}, {host(4, 4, 8), host(4, 4, 8), api.Packet{}, false},
		{count(host(1, 1, 1), api.MaxCount, 5), count(host(1, 2, 1), api.MaxCount, 5), sent(1, "a"), true},
		{api.Host{Base: 1, Next: 1, Window: 1}, api.Host{Base: 1, Next: 1, Window: 1}, api.Packet{}, false},
	} {
		given := slices.Clone(q.h.Lines)
		got, p, ok := Send(q.h)
		if !same(got, q.want) || p != q.p || ok != q.ok || !slices.Equal(given, q.h.Lines) {
			t.Errorf("Send(%v) = %v, %v, %v; want %v, %v", q.h, got, p, ok, q.want, q.p)
		}
	}
	for i, h := range invalidHosts() {
		if got, p, ok := Send(h); !same(got, h) || p != (api.Packet{}) || ok {
			t.Errorf("Send of invalid host %d: %v, %v", i, p, ok)
		}
	}
}

// P47.4, P47.5, P47.6: the results have lists of lines of their own, and as many lines as are allowed.
func TestNewHosts(t *testing.T) {
	h := host(2, 3, 4)
	sent, _, _ := Send(h)
	idle, _, _ := Send(host(4, 4, 4))
	again, _ := Again(h, 1)
	for i, got := range []api.Host{sent, idle, again, Answer(h, back("ok 2")), Answer(h, api.Packet{})} {
		got.Lines[0] = "x"
		if h.Lines[0] != "a" {
			t.Fatalf("host %d shares its lines", i)
		}
	}
	full := api.Host{Lines: make([]string, 1<<16), Base: 1, Next: 1, Window: 1}
	if _, _, ok := Send(full); !ok {
		t.Error("a full host sends nothing")
	}
}

// P47.5.
func TestAnswer(t *testing.T) {
	for _, q := range []struct {
		h    api.Host
		p    api.Packet
		want api.Host
	}{
		{host(1, 3, 4), back("ok 1"), host(2, 3, 4)}, {host(1, 3, 4), back("ok 2"), host(3, 3, 4)}, {host(1, 2, 4), back("ok 3"), host(4, 4, 4)}, {host(1, 3, 4), back("ok 0"), host(1, 3, 4)},
		{host(3, 4, 4), back("ok 1"), host(3, 4, 4)}, {host(1, 3, 4), back("ok 4"), host(1, 3, 4)}, {host(2, 3, 4), back("resend 2"), count(host(2, 2, 4), 0, 1)}, {host(2, 4, 4), back("resend 3"), count(host(3, 3, 4), 0, 1)},
		{host(3, 4, 4), back("resend 1"), count(host(1, 1, 4), 0, 1)}, {host(2, 3, 4), back("resend 3"), host(2, 3, 4)}, {host(2, 3, 4), back("resend 0"), host(2, 3, 4)}, {host(2, 3, 4), back("resend 1099511627777"), host(2, 3, 4)},
		{host(1, 3, 4), back("ok 1099511627777"), host(1, 3, 4)}, {host(1, 3, 4), back("ok 1099511627778"), host(1, 3, 4)}, {count(host(2, 3, 4), 7, api.MaxCount), back("resend 2"), count(host(2, 2, 4), 7, api.MaxCount)},
		{host(1, 3, 4), api.Packet{Text: check("ok 1")}, host(1, 3, 4)}, {host(1, 3, 4), back("ok 01"), host(1, 3, 4)}, {host(1, 3, 4), back("ok  1"), host(1, 3, 4)}, {host(1, 3, 4), back("OK 1"), host(1, 3, 4)},
		{host(1, 3, 4), back("ok 1 "), host(1, 3, 4)}, {host(1, 3, 4), back("ok"), host(1, 3, 4)}, {host(1, 3, 4), back("ok -1"), host(1, 3, 4)}, {host(1, 3, 4), api.Packet{Back: true, Text: "ok 1*" + "0"}, host(1, 3, 4)},
		{host(1, 3, 4), api.Packet{Back: true}, host(1, 3, 4)}, {host(1, 3, 4), api.Packet{Back: true, Text: check("ok 1"), Spoilt: true}, host(2, 3, 4)}, {host(1, 3, 4), back("resend"), host(1, 3, 4)},
	} {
		if got := Answer(q.h, q.p); !same(got, q.want) {
			t.Errorf("Answer(%v, %v) = %v; want %v", q.h, q.p, got, q.want)
		}
	}
	for i, h := range invalidHosts() {
		for _, p := range []api.Packet{back("ok 1"), back("resend 1")} {
			if got := Answer(h, p); !same(got, h) {
				t.Errorf("Answer of invalid host %d: %v", i, p)
			}
		}
	}
}

// P47.6.
func TestAgain(t *testing.T) {
	for from, want := range map[int]api.Errno{1: api.OK, 3: api.OK, 4: api.OK, 0: api.ErrArg, 5: api.ErrArg, -1: api.ErrArg, math.MinInt: api.ErrArg, math.MaxInt: api.ErrArg} {
		got, e := Again(count(host(2, 3, 4), 6, 7), from)
		if e != want || e == api.OK && !same(got, count(host(from, from, 4), 6, 7)) || e != api.OK && !same(got, api.Host{}) {
			t.Errorf("Again from %d = %v, %d", from, got, e)
		}
	}
	for i, h := range invalidHosts() {
		if got, e := Again(h, 1); e != api.ErrArg || !same(got, api.Host{}) {
			t.Errorf("Again of invalid host %d: %d", i, e)
		}
	}
}

// P47.7.
func TestReceive(t *testing.T) {
	const most = api.MaxCount
	for _, q := range []struct {
		want  int
		p     api.Packet
		next  int
		text  string
		reply api.Packet
		ok    bool
	}{
		{3, sent(3, "G28"), 4, "G28", back("ok 3"), true}, {3, sent(5, "G28"), 3, "", back("resend 3"), false}, {3, sent(4, "G28"), 3, "", back("resend 3"), false}, {3, sent(2, "G28"), 3, "", back("ok 2"), false},
		{3, sent(1, "G28"), 3, "", back("ok 2"), false}, {1, sent(1, ""), 2, "", back("ok 1"), true}, {3, api.Packet{Text: "N3 G28*17"}, 3, "", back("resend 3"), false}, {3, api.Packet{}, 3, "", back("resend 3"), false},
		{3, api.Packet{Text: "noise"}, 3, "", back("resend 3"), false}, {3, back("ok 2"), 3, "", api.Packet{}, false}, {3, api.Packet{Back: true, Text: sent(3, "G28").Text}, 3, "", api.Packet{}, false},
		{most, sent(most, "x"), most + 1, "x", back("ok 1099511627776"), true}, {most + 1, sent(most, "x"), most + 1, "", back("ok 1099511627776"), false}, {most + 1, api.Packet{}, most + 1, "", back("resend 1099511627777"), false},
		{0, sent(1, "x"), 0, "", api.Packet{}, false}, {-1, sent(1, "x"), -1, "", api.Packet{}, false}, {most + 2, sent(1, "x"), most + 2, "", api.Packet{}, false}, {math.MaxInt, sent(1, "x"), math.MaxInt, "", api.Packet{}, false},
		{3, api.Packet{Text: sent(3, "G28").Text, Spoilt: true}, 4, "G28", back("ok 3"), true},
	} {
		d, text, reply, ok := Receive(api.Device{Want: q.want}, q.p)
		if d.Want != q.next || text != q.text || reply != q.reply || ok != q.ok {
			t.Errorf("Receive(%d, %v) = %v, %q, %v, %v; want %d, %q, %v", q.want, q.p, d, text, reply, ok, q.next, q.text, q.reply)
		}
	}
}

// P47.8.
func TestNet(t *testing.T) {
	l := []api.Packet{{Text: "a"}, {Text: "b", Back: true}, {Text: "c", Spoilt: true}, {}}
	given := slices.Clone(l)
	p, rest, e := Deliver(l, 1)
	if p != l[1] || !slices.Equal(rest, []api.Packet{l[0], l[2], l[3]}) || e != api.OK {
		t.Errorf("Deliver = %v, %v, %d", p, rest, e)
	}
	rest[0].Text = "x"
	double, e := Double(l, 2)
	if !slices.Equal(double, append(slices.Clone(given), l[2])) || e != api.OK {
		t.Errorf("Double = %v, %d", double, e)
	}
	double[0].Text = "x"
	for _, at := range []int{-1, 4, math.MinInt, math.MaxInt} {
		p, rest, e := Deliver(l, at)
		double, eDouble := Double(l, at)
		spoilt, eSpoil := Spoil(l, at, 0)
		if p != (api.Packet{}) || len(rest)+len(double)+len(spoilt) != 0 || e != api.ErrNotFound || eDouble != api.ErrNotFound || eSpoil != api.ErrNotFound {
			t.Errorf("packet %d: errors %d, %d, %d", at, e, eDouble, eSpoil)
		}
	}
	for at, want := range map[int]api.Errno{2: api.ErrState, 3: api.ErrState} {
		if got, e := Spoil(l, at, 0); len(got) != 0 || e != want {
			t.Errorf("Spoil of packet %d = %v, %d", at, got, e)
		}
	}
	word := []api.Packet{{Text: "abcde"}}
	for n, want := range map[int]string{0: "`bcde", 1: "accde", 4: "abcdd", 5: "`bcde", -1: "abcdd", -5: "`bcde", -6: "abcdd", math.MinInt: "abbde", math.MaxInt: "abbde"} {
		if got, e := Spoil(word, 0, n); e != api.OK || got[0] != (api.Packet{Text: want, Spoilt: true}) || word[0].Text != "abcde" {
			t.Errorf("Spoil of byte %d = %v, %d; want %q", n, got, e, want)
		}
	}
	full := make([]api.Packet, api.MaxMail)
	if got, e := Double(full, 0); len(got) != 0 || e != api.ErrFull {
		t.Errorf("Double of a full list = %d packets, %d", len(got), e)
	}
	if got, e := Double(full, api.MaxMail); len(got) != 0 || e != api.ErrNotFound {
		t.Errorf("Double of no packet of a full list = %d packets, %d", len(got), e)
	}
	if got, e := Double(full[1:], 0); len(got) != api.MaxMail || e != api.OK {
		t.Errorf("Double = %d packets, %d", len(got), e)
	}
	if !slices.Equal(l, given) {
		t.Errorf("the list has been changed to %v", l)
	}
}

// P47.10: whatever happens on the way, the lines are accepted in order, each once.
func TestAnyWay(t *testing.T) {
	random := rand.New(rand.NewSource(47))
	complete := 0
	for range 200 {
		var lines []string
		for i := range random.Intn(12) {
			lines = append(lines, "line "+strconv.Itoa(i))
		}
		h, _ := Start(lines, 1+random.Intn(8))
		d := api.Device{Want: 1}
		var net []api.Packet
		var accepted []string
		for range 400 {
			at := random.Intn(len(net) + 1)
			var e api.Errno
			switch random.Intn(9) {
			case 0, 1:
				var p api.Packet
				var ok bool
				if h, p, ok = Send(h); ok {
					net = append(net, p)
				}
			case 2:
				if changed, wrong := Spoil(net, at, random.Intn(99)-50); wrong == api.OK {
					net = changed
				}
			case 3:
				if more, wrong := Double(net, at); wrong == api.OK {
					net = more
				}
			case 4:
				if random.Intn(4) == 0 {
					h, e = Again(h, h.Base)
				}
			default:
				p, rest, missing := Deliver(net, at)
				if missing != api.OK {
					continue
				}
				net = rest
				if p.Back {
					h = Answer(h, p)
					continue
				}
				next, text, reply, ok := Receive(d, p)
				if ok {
					accepted = append(accepted, text)
				}
				d, net = next, append(net, reply)
			}
			if e != api.OK || !courier.Valid(h) || h.Base > d.Want || !slices.Equal(accepted, lines[:d.Want-1]) {
				t.Fatalf("the device has accepted %v, the host is %v", accepted, h)
			}
		}
		if len(accepted) == len(lines) {
			complete++
		}
	}
	if complete < 50 {
		t.Errorf("only %d times all lines were accepted", complete)
	}
}
