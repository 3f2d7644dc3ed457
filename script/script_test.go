package script

import (
	"fmt"
	"math"
	"math/rand"
	"slices"
	"strconv"
	"strings"
	"testing"

	"additive/api"
	"additive/gcode"
	"additive/printer"
)

func same(a, b api.Step) bool {
	return a.Kind == b.Kind && a.Name == b.Name && slices.Equal(a.Numbers, b.Numbers) && a.At == b.At && a.N == b.N && a.Keep == b.Keep && a.Cmd == b.Cmd
}

func numbers(n, value int) []int { return slices.Repeat([]int{value}, n) }

// lines are steps with their lines.
func lines() map[string]api.Step {
	return map[string]api.Step{
		"part box 40 40 0 80 40 20": {Kind: api.WsPart, Name: "box", Numbers: []int{40, 40, 0, 80, 40, 20}}, "part x": {Kind: api.WsPart, Name: "x"}, "part abcdefghijklmnop -1073741824 1073741824": {Kind: api.WsPart, Name: "abcdefghijklmnop", Numbers: []int{-1 << 30, 1 << 30}},
		"part z" + strings.Repeat(" 7", 64): {Kind: api.WsPart, Name: "z", Numbers: numbers(64, 7)}, "slice": {Kind: api.WsSlice}, "send": {Kind: api.WsSend}, "timeout": {Kind: api.WsTimeout}, "on": {Kind: api.WsOn},
		"deliver 0": {Kind: api.WsDeliver}, "deliver -5": {Kind: api.WsDeliver, At: -5}, "drop 3": {Kind: api.WsDrop, At: 3}, "double 9223372036854775807": {Kind: api.WsDouble, At: math.MaxInt}, "spoil 2 -7": {Kind: api.WsSpoil, At: 2, N: -7}, "spoil 0 0": {Kind: api.WsSpoil},
		"ticks 1": {Kind: api.WsTicks, N: 1}, "ticks -9223372036854775808": {Kind: api.WsTicks, N: math.MinInt}, "run 9": {Kind: api.WsRun, N: 9}, "feed 100000": {Kind: api.WsFeed, N: 100000}, "door 1": {Kind: api.WsDoor, N: 1}, "door 0": {Kind: api.WsDoor},
		"sensor 1 0": {Kind: api.WsSensor, At: 1}, "sensor 0 1": {Kind: api.WsSensor, N: 1}, "off 2 64": {Kind: api.WsOff, N: 2, Keep: 64}, "off 0 0": {Kind: api.WsOff}, "off 0 -1": {Kind: api.WsOff, Keep: -1},
		"panel G28": {Kind: api.WsPanel, Cmd: api.Cmd{Code: api.CoHome}}, "panel M104 S200000": {Kind: api.WsPanel, Cmd: api.Cmd{Code: api.CoNozzle, Has: api.HasS, S: 200000}}, "panel G1 X-5 F3": {Kind: api.WsPanel, Cmd: api.Cmd{Code: api.CoPrint, Has: api.HasX | api.HasF, X: -5, F: 3}}, "panel G0": {Kind: api.WsPanel},
	}
}

// P59.1, P59.2, P59.5.
func TestLines(t *testing.T) {
	for line, s := range lines() {
		if got, e := Print(s); got != line || e != api.OK {
			t.Errorf("Print(%v) = %q, %d; want %q", s, got, e, line)
		}
		if got, e := Parse(line); !same(got, s) || e != api.OK {
			t.Errorf("Parse(%q) = %v, %d; want %v", line, got, e, s)
		}
	}
}

// P59.1: steps that are not plain.
func TestPrintErrors(t *testing.T) {
	home := api.Cmd{Code: api.CoHome}
	for _, s := range []api.Step{
		{}, {Kind: 17}, {Kind: -1}, {Kind: math.MaxInt}, {Kind: api.WsPart}, {Kind: api.WsPart, Name: "abcdefghijklmnopq"}, {Kind: api.WsPart, Name: "Box"}, {Kind: api.WsPart, Name: "b x"}, {Kind: api.WsPart, Name: "box1"}, {Kind: api.WsPart, Name: "\u00e4"},
		{Kind: api.WsPart, Name: "box", Numbers: numbers(65, 1)}, {Kind: api.WsPart, Name: "box", Numbers: []int{1<<30 + 1}}, {Kind: api.WsPart, Name: "box", Numbers: []int{0, -1<<30 - 1}}, {Kind: api.WsPart, Name: "box", At: 1}, {Kind: api.WsPart, Name: "box", N: 1}, {Kind: api.WsPart, Name: "box", Keep: 1},
		{Kind: api.WsPart, Name: "box", Cmd: home}, {Kind: api.WsSlice, N: 1}, {Kind: api.WsSend, At: 1}, {Kind: api.WsTimeout, Keep: 1}, {Kind: api.WsOn, Name: "x"}, {Kind: api.WsOn, Numbers: []int{0}}, {Kind: api.WsSlice, Cmd: home},
		{Kind: api.WsDeliver, N: 1}, {Kind: api.WsDrop, Keep: 1}, {Kind: api.WsDouble, Cmd: home}, {Kind: api.WsSpoil, Keep: 1}, {Kind: api.WsTicks, At: 1}, {Kind: api.WsRun, Keep: 1}, {Kind: api.WsFeed, Name: "x"}, {Kind: api.WsDoor, At: 1}, {Kind: api.WsSensor, Keep: 1}, {Kind: api.WsOff, At: 1},
		{Kind: api.WsPanel, Cmd: api.Cmd{Code: 3}}, {Kind: api.WsPanel, Cmd: api.Cmd{Code: api.CoHome, S: 1}}, {Kind: api.WsPanel, Cmd: home, N: 1}, {Kind: api.WsPanel, Cmd: api.Cmd{Code: api.CoDwell}},
	} {
		given := slices.Clone(s.Numbers)
		if line, e := Print(s); line != "" || e != api.ErrArg || !slices.Equal(given, s.Numbers) {
			t.Errorf("Print(%v) = %q, %d", s, line, e)
		}
	}
}

// P59.2: lines that no step has.
func TestParseErrors(t *testing.T) {
	for _, line := range []string{
		"", " ", "#", "# slice", "slice ", " slice", "slice 1", "Slice", "sliced", "part", "part ", "part  1", "part box ", "part box  1", "part box 1 ", "part box 01", "part box 1.5", "part box +1", "part box -0", "part box 1073741825", "part box -1073741825", "part Box 1", "part box1", "part box x",
		"part abcdefghijklmnopq", "part z" + strings.Repeat(" 7", 65), "part box 99999999999999999999", "send 0", "timeout 1", "on 1", "deliver", "deliver ", "deliver x", "deliver 1 2", "deliver 01", "deliver 9223372036854775808", "deliver  1", "drop", "double", "spoil 1", "spoil 1 2 3", "ticks", "ticks 1 1", "ticks\t1", "ticks 1\r", "run", "feed", "door",
		"sensor 1", "sensor 1 2 3", "off 1", "off", "off 1 2 3", "panel", "panel ", "panel  G28", "panel G28 ", "panel g28", "panel G2", "panel G4", "panel M106 S256", "panel G1 Y1 X1", "panel G01", "nonsense", "ticks 1\n", "\xff", "panel\u00a0G28",
	} {
		if s, e := Parse(line); e != api.ErrSyntax || !same(s, api.Step{}) {
			t.Errorf("Parse(%q) = %v, %d", line, s, e)
		}
	}
}

// randomStep returns a plain step.
func randomStep(random *rand.Rand) api.Step {
	f := forms()[random.Intn(len(forms()))]
	s := api.Step{Kind: f.kind}
	for i := range len(f.fields) {
		*field(&s, f.fields[i]) = random.Intn(2000) - 1000
	}
	switch f.kind {
	case api.WsPart:
		for range 1 + random.Intn(16) {
			s.Name += string(rune('a' + random.Intn(26)))
		}
		for range random.Intn(65) {
			s.Numbers = append(s.Numbers, random.Intn(1<<31)-1<<30)
		}
	case api.WsPanel:
		s.Cmd, _ = gcode.Parse([]string{"G28", "M112", "M104 S" + strconv.Itoa(random.Intn(400001)), "G0 X" + strconv.Itoa(random.Intn(99)) + " Y-3", "G4 S5"}[random.Intn(5)])
	}
	return s
}

// P59.1, P59.2, P59.5.
func TestAnyStep(t *testing.T) {
	random := rand.New(rand.NewSource(59))
	kinds := map[int]bool{}
	for range 3000 {
		s := randomStep(random)
		kinds[s.Kind] = true
		line, e := Print(s)
		got, wrong := Parse(line)
		if e != api.OK || wrong != api.OK || !same(got, s) {
			t.Errorf("Print(%v) = %q, %d, from which Parse returns %v, %d", s, line, e, got, wrong)
		}
	}
	if len(kinds) != 16 {
		t.Errorf("only %d kinds", len(kinds))
	}
}

// P59.2, P59.5: whatever is parsed has the line that was given.
func FuzzParse(f *testing.F) {
	for line := range lines() {
		f.Add(line)
	}
	f.Fuzz(func(t *testing.T, line string) {
		s, e := Parse(line)
		if e != api.OK {
			return
		}
		if got, e := Print(s); got != line || e != api.OK {
			t.Errorf("Parse(%q) = %v, whose line is %q", line, s, got)
		}
	})
}

// P59.3.
func TestRead(t *testing.T) {
	for text, want := range map[string]struct {
		steps []api.Step
		line  int
		e     api.Errno
	}{
		"": {}, "\n\n": {}, "# nothing\n#\n": {}, "slice": {steps: []api.Step{{Kind: api.WsSlice}}}, "slice\n": {steps: []api.Step{{Kind: api.WsSlice}}}, "\n# a part\npart x\n\nticks 5\n#end": {steps: []api.Step{{Kind: api.WsPart, Name: "x"}, {Kind: api.WsTicks, N: 5}}},
		"slice\nslice \nnonsense": {line: 2, e: api.ErrSyntax}, "\n#\n\nnonsense": {line: 4, e: api.ErrSyntax}, " ": {line: 1, e: api.ErrSyntax}, "slice\r\nsend": {line: 1, e: api.ErrSyntax}, " # no": {line: 1, e: api.ErrSyntax},
		strings.Repeat("#", api.MaxText): {}, strings.Repeat("x", api.MaxText+1): {e: api.ErrLimit}, strings.Repeat("\n", api.MaxText-1) + "x": {line: api.MaxText, e: api.ErrSyntax},
	} {
		steps, line, e := Read(text)
		if !slices.EqualFunc(steps, want.steps, same) || line != want.line || e != want.e {
			t.Errorf("Read(%.30q) = %v, %d, %d; want %v", text, steps, line, e, want)
		}
	}
}

// P59.4: the example of the document, and errors.
func TestPlay(t *testing.T) {
	for text, want := range map[string]string{
		"part box 40 40 0 40 40 20\nslice\nsend\ndeliver 0\nticks 1": "ok\nok 15\nok\nok\nok at 0 0 0 0 mode 1 line 1\n",
		"": "", "# nothing\n\n": "", "nonsense\nslice\n\nsend \nsend": "syntax\nerror 14\nsyntax\nerror 14\n", strings.Repeat("#", api.MaxText+1): "error 2\n", strings.Repeat("#", api.MaxText): "",
		"part ball\npart box\npart box 0 0 0 99999999 1 1\ndeliver 0\nticks 0\non":                            "error 22\nerror 1\nerror 8\nerror 9\nerror 1\nerror 14\n",
		"panel G28\npanel M112\npanel G28\noff 0 0\nticks 3\nrun 5\non\nsensor 0 1\ndoor 1\nfeed 5\npanel G0": "ok at 0 0 0 0 mode 1 line 0\nok at 0 0 0 0 mode 3 line 0\nerror 16\nok\nok at 0 0 0 0 mode 0 line 0\nerror 14\nok at 0 0 0 0 mode 1 line 0\nok\nok\nok\nerror 1\n",
	} {
		if got := Play(text); got != want {
			t.Errorf("Play(%.60q) = %q; want %q", text, got, want)
		}
	}
}

// P59.4: the default settings and machine.
func TestDefaults(t *testing.T) {
	wantSettings := api.Settings{
		Pitch: 40, Height: 20, Walls: 1, Top: 1, Bottom: 1, Pattern: api.PaLines, Spacing: 2, Support: false, Reach: 1, Gap: 1, Brim: 0, Skirt: 0, Drop: 8000, Feed: 4000, Travel: 8000, Retract: 2, MinTime: 0, MinFeed: 40, Nozzle: 200000, Bed: 60000,
	}
	axis := api.Axis{Num: 1, Den: 1, Speed: 1000, Accel: 100000, Jerk: 200, Min: 0, Max: 20000}
	z, e := axis, axis
	z.Speed, e.Min, e.Max = 500, -1000000, 1000000
	if settings() != wantSettings || machine() != (api.Machine{Axes: [4]api.Axis{axis, axis, z, e}, Ticks: 1000}) {
		t.Errorf("the defaults are %v and %v", settings(), machine())
	}
}

// P59.4, P59.5: scripts of all kinds, compared with their steps one by one.
func TestPlayIsItsSteps(t *testing.T) {
	random := rand.New(rand.NewSource(60))
	answers := map[string]bool{}
	for range 15 {
		text := "part box 40 40 0 80 40 20\n"
		if random.Intn(3) > 0 {
			text += "slice\nfeed 1000\nrun 300\n"
		}
		for range 40 {
			switch random.Intn(6) {
			case 0:
				text += "run " + strconv.Itoa(random.Intn(400)) + "\n"
			case 1:
				text += []string{"nonsense", "", "# a note", "slice", "on", "off 1 9", "door 0", "timeout"}[random.Intn(8)] + "\n"
			default:
				line, _ := Print(randomStep(random))
				text += line + "\n"
			}
		}
		w, _ := printer.New(settings(), machine(), 16)
		want, begin := "", ""
		for i, line := range strings.Split(text, "\n") {
			if line == "" || line[0] == '#' {
				continue
			}
			s, e := Parse(line)
			answer := "syntax"
			if e == api.OK {
				w, e = printer.Do(w, s)
				answer = "ok"
				switch {
				case e != api.OK:
					answer = fmt.Sprint("error ", int(e))
				case s.Kind == api.WsTicks || s.Kind == api.WsRun || s.Kind == api.WsOn || s.Kind == api.WsPanel:
					p := w.Firmware.Pos
					answer = fmt.Sprint("ok at ", p[0], " ", p[1], " ", p[2], " ", p[3], " mode ", w.Firmware.Mode, " line ", w.Firmware.Line)
				case s.Kind == api.WsSlice:
					answer = fmt.Sprint("ok ", len(w.Program))
				}
			}
			answers[strings.Split(answer, " ")[0]] = true
			want += answer + "\n"
			if i == 10 {
				begin = want
			}
		}
		got := Play(text)
		if got != want {
			t.Errorf("Play(%q) = %q; want %q", text, got, want)
		}
		if first := Play(strings.Join(strings.Split(text, "\n")[:11], "\n")); begin != "" && first != begin || !strings.HasPrefix(got, first) {
			t.Errorf("Play of the first lines of %q = %q", text, first)
		}
	}
	if len(answers) != 3 {
		t.Errorf("only the answers %v", answers)
	}
}
