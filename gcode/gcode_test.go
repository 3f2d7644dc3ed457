package gcode

import (
	"math"
	"math/rand"
	"strconv"
	"strings"
	"testing"

	"additive/api"
)

// codes are all codes with their names, and the letters of the words that they allow.
var codes = []struct {
	code  int
	name  string
	words string
}{
	{api.CoTravel, "G0", "XYZF"}, {api.CoPrint, "G1", "XYZEF"}, {api.CoDwell, "G4", "S"}, {api.CoHome, "G28", ""}, {api.CoResume, "M24", ""}, {api.CoPause, "M25", ""},
	{api.CoNozzle, "M104", "S"}, {api.CoFan, "M106", "S"}, {api.CoFanOff, "M107", ""}, {api.CoNozzleW, "M109", "S"}, {api.CoStop, "M112", ""}, {api.CoBed, "M140", "S"},
	{api.CoBedW, "M190", "S"}, {api.CoReset, "M999", ""},
}

// most returns the range of a word of a code.
func most(name string, letter byte) (int, int) {
	switch {
	case letter == 'F':
		return 1, 1 << 20
	case letter != 'S':
		return -1 << 30, 1 << 30
	case name == "G4":
		return 0, 1 << 20
	case name == "M106":
		return 0, 255
	}
	return 0, 400000
}

// with returns a command with a word more.
func with(c api.Cmd, letter byte, n int) api.Cmd {
	i := strings.IndexByte("XYZEFS", letter)
	c.Has |= 1 << i
	*[]*int{&c.X, &c.Y, &c.Z, &c.E, &c.F, &c.S}[i] = n
	return c
}

// P39.1, P39.2: each word of each code, at the bounds of its range and beyond, alone.
func TestEachWord(t *testing.T) {
	for _, k := range codes {
		for _, letter := range []byte("XYZEFS") {
			allowed := strings.IndexByte(k.words, letter) >= 0
			low, high := most(k.name, letter)
			for _, n := range []int{low, low + 1, (low + high) / 2, high, low - 1, high + 1, math.MinInt, math.MaxInt} {
				c := with(api.Cmd{Code: k.code}, letter, n)
				text := k.name + " " + string(letter) + strconv.Itoa(n)
				inRange := low <= n && n <= high
				want := api.OK
				switch {
				case !allowed:
					want = api.ErrSyntax
				case !inRange:
					want = api.ErrRange
				}
				if Valid(c) != (want == api.OK) {
					t.Errorf("Valid(%v) = %v", c, Valid(c))
				}
				if got, e := Print(c); want == api.OK && (got != text || e != api.OK) || want != api.OK && (got != "" || e != api.ErrArg) {
					t.Errorf("Print(%v) = %q, %d", c, got, e)
				}
				if got, e := Parse(text); e != want || e == api.OK && got != c || e != api.OK && got != (api.Cmd{}) {
					t.Errorf("Parse(%q) = %v, %d; want %d", text, got, e, want)
				}
			}
		}
		bare := api.Cmd{Code: k.code}
		required := k.words == "S"
		if Valid(bare) == required {
			t.Errorf("Valid(%v) = %v", bare, Valid(bare))
		}
		want := api.OK
		if required {
			want = api.ErrSyntax
		}
		if got, e := Parse(k.name); e != want || e == api.OK && got != bare {
			t.Errorf("Parse(%q) = %v, %d", k.name, got, e)
		}
	}
}

// P39.1: commands that are not valid.
func TestInvalid(t *testing.T) {
	for _, c := range []api.Cmd{
		{Code: 2}, {Code: -1}, {Code: 104}, {Code: 1000}, {Code: 1001}, {Code: 1999 + 1000}, {Code: math.MinInt}, {Code: math.MaxInt},
		{Code: api.CoTravel, X: 1}, {Code: api.CoPrint, Has: api.HasX, X: 1, Y: 1}, {Code: api.CoHome, S: 1}, {Code: api.CoFan, Has: api.HasS, F: 1},
		{Code: api.CoTravel, Has: 64}, {Code: api.CoTravel, Has: -1}, {Code: api.CoHome, Has: math.MinInt}, {Code: api.CoPrint, Has: 1 << 40}, {Code: api.CoDwell, Has: api.HasS | 64},
		{Code: api.CoPrint, Has: api.HasX | api.HasS}, {Code: api.CoTravel, Has: api.HasE}, {Code: api.CoPrint, Has: api.HasF},
	} {
		if Valid(c) {
			t.Errorf("%v is valid", c)
		}
		if got, e := Print(c); got != "" || e != api.ErrArg {
			t.Errorf("Print(%v) = %q, %d", c, got, e)
		}
	}
}

// P39.1, P39.2.
func TestTexts(t *testing.T) {
	for text, c := range map[string]api.Cmd{
		"G1 X10 Y-5 E3 F200":          {Code: api.CoPrint, Has: api.HasX | api.HasY | api.HasE | api.HasF, X: 10, Y: -5, E: 3, F: 200},
		"G0":                          {Code: api.CoTravel},
		"G1 X0 Y0 Z0 E0 F1":           {Code: api.CoPrint, Has: 31, F: 1},
		"G0 Z20 F8000":                {Code: api.CoTravel, Has: api.HasZ | api.HasF, Z: 20, F: 8000},
		"M104 S200000":                {Code: api.CoNozzle, Has: api.HasS, S: 200000},
		"M112":                        {Code: api.CoStop},
		"G1 X-1073741824 E1073741824": {Code: api.CoPrint, Has: api.HasX | api.HasE, X: -1 << 30, E: 1 << 30},
	} {
		if got, e := Print(c); got != text || e != api.OK {
			t.Errorf("Print(%v) = %q, %d; want %q", c, got, e, text)
		}
		if got, e := Parse(text); got != c || e != api.OK {
			t.Errorf("Parse(%q) = %v, %d; want %v", text, got, e, c)
		}
	}
}

// P39.2: the errors.
func TestParseErrors(t *testing.T) {
	long := strings.Repeat("9", 80)
	for text, want := range map[string]api.Errno{
		"G1 Y1 X1": api.ErrSyntax, "G1 X01": api.ErrSyntax, "G2 X1": api.ErrUnknown, "M1": api.ErrUnknown, "G0 F0": api.ErrRange, "M106 S256": api.ErrRange, "G4": api.ErrSyntax, "G01": api.ErrSyntax,
		"": api.ErrSyntax, " ": api.ErrSyntax, "G": api.ErrSyntax, "M": api.ErrSyntax, "X1": api.ErrSyntax, "g1": api.ErrSyntax, "G1 ": api.ErrSyntax, " G1": api.ErrSyntax, "G1  X1": api.ErrSyntax, "G1 X1 ": api.ErrSyntax,
		"G1\tX1": api.ErrSyntax, "G1X1": api.ErrSyntax, "G-1": api.ErrSyntax, "G-0": api.ErrSyntax, "G+1": api.ErrSyntax, "M-5": api.ErrSyntax, "G-" + long: api.ErrSyntax, "G1.0": api.ErrSyntax, "M0104 S1": api.ErrSyntax,
		"G" + long: api.ErrUnknown, "M" + long: api.ErrUnknown, "M9223372036854775807": api.ErrUnknown, "M9223372036854774808": api.ErrUnknown, "G104 S1": api.ErrUnknown, "G1104 S1": api.ErrUnknown, "M28": api.ErrUnknown, "M4 S1": api.ErrUnknown,
		"G24": api.ErrUnknown, "G1999": api.ErrUnknown, "G2 nonsense": api.ErrUnknown, "M1 ": api.ErrUnknown, "G0 E1": api.ErrSyntax, "G28 X0": api.ErrSyntax, "M106": api.ErrSyntax, "M106 X1": api.ErrSyntax, "M107 S0": api.ErrSyntax,
		"G1 X1 X2": api.ErrSyntax, "G1 X": api.ErrSyntax, "G1 X-": api.ErrSyntax, "G1 X--1": api.ErrSyntax, "G1 X1.5": api.ErrSyntax, "G1 x1": api.ErrSyntax, "G1 A1": api.ErrSyntax, "G1 1": api.ErrSyntax, "G1 X-0": api.ErrSyntax,
		"G1 X" + long: api.ErrRange, "G1 X-" + long: api.ErrRange, "G1 X" + long + " Y0x": api.ErrSyntax, "G1 X" + long + " S1": api.ErrSyntax, "G1 X" + long + " A1": api.ErrSyntax, "M104 S-1": api.ErrRange, "M104 S400001": api.ErrRange,
		"G1 X1073741825 Y" + long: api.ErrRange, "G4 S1048577": api.ErrRange, "G1 F1048577": api.ErrRange, "G4 S" + long: api.ErrRange,
		strings.Repeat("x", 96): api.ErrSyntax, strings.Repeat("x", 97): api.ErrLimit, "G2 " + long + long: api.ErrLimit, "G1 X" + strings.Repeat("9", 92): api.ErrRange, "G1 X" + strings.Repeat("9", 93): api.ErrLimit,
		"G1 X1\n": api.ErrSyntax, "G1*": api.ErrSyntax, "G\u0661": api.ErrSyntax, "\xff": api.ErrSyntax, "G1 X1 \x00": api.ErrSyntax,
	} {
		if got, e := Parse(text); e != want || got != (api.Cmd{}) {
			t.Errorf("Parse(%q) = %v, %d; want %d", text, got, e, want)
		}
	}
}

// P39.3.
func TestRestored(t *testing.T) {
	random := rand.New(rand.NewSource(39))
	seen := map[string]api.Cmd{}
	for range 5000 {
		k := codes[random.Intn(len(codes))]
		c := api.Cmd{Code: k.code}
		for _, letter := range []byte(k.words) {
			if k.words == "S" || random.Intn(2) == 0 {
				low, high := most(k.name, letter)
				c = with(c, letter, []int{low, high, low + random.Intn(high-low+1)}[random.Intn(3)])
			}
		}
		text, e := Print(c)
		if !Valid(c) || e != api.OK || len(text) > api.MaxLine {
			t.Fatalf("Print(%v) = %q, %d", c, text, e)
		}
		if got, e := Parse(text); got != c || e != api.OK {
			t.Errorf("Parse(%q) = %v, %d; want %v", text, got, e, c)
		}
		if other, found := seen[text]; found && other != c {
			t.Errorf("%v and %v have the text %q", other, c, text)
		}
		seen[text] = c
	}
}

// P39.2, P39.3: whatever is parsed has the text that was given.
func FuzzParse(f *testing.F) {
	for _, text := range []string{"G1 X10 Y-5 E3 F200", "M104 S200000", "G28", "M1", "G4 S", "G0 F0"} {
		f.Add(text)
	}
	f.Fuzz(func(t *testing.T, text string) {
		c, e := Parse(text)
		if e != api.OK {
			return
		}
		if got, e := Print(c); got != text || e != api.OK {
			t.Errorf("Parse(%q) = %v, whose text is %q", text, c, got)
		}
	})
}
