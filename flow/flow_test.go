package flow

import (
	"math"
	"math/rand"
	"slices"
	"testing"

	"additive/api"
)

// good returns valid settings.
func good() api.Settings {
	return api.Settings{Pitch: 40, Height: 20, Spacing: 2, Drop: 1000, Feed: 4000, Travel: 8000, Retract: 5, MinFeed: 40, Nozzle: 200000, Bed: 60000}
}

// bound is a setting with its range.
type bound struct {
	name      string
	field     func(*api.Settings) *int
	low, high int
}

func bounds() []bound {
	return []bound{
		{"Pitch", func(s *api.Settings) *int { return &s.Pitch }, 32, 1024},
		{"Height", func(s *api.Settings) *int { return &s.Height }, 4, 1024},
		{"Walls", func(s *api.Settings) *int { return &s.Walls }, 0, 8},
		{"Top", func(s *api.Settings) *int { return &s.Top }, 0, 16},
		{"Bottom", func(s *api.Settings) *int { return &s.Bottom }, 0, 16},
		{"Pattern", func(s *api.Settings) *int { return &s.Pattern }, 0, 3},
		{"Spacing", func(s *api.Settings) *int { return &s.Spacing }, 1, 64},
		{"Reach", func(s *api.Settings) *int { return &s.Reach }, 0, 64},
		{"Gap", func(s *api.Settings) *int { return &s.Gap }, 0, 64},
		{"Brim", func(s *api.Settings) *int { return &s.Brim }, 0, 64},
		{"Skirt", func(s *api.Settings) *int { return &s.Skirt }, 0, 63},
		{"Drop", func(s *api.Settings) *int { return &s.Drop }, 1, 1 << 30},
		{"Feed", func(s *api.Settings) *int { return &s.Feed }, 40, 1 << 20},
		{"Travel", func(s *api.Settings) *int { return &s.Travel }, 1, 1 << 20},
		{"Retract", func(s *api.Settings) *int { return &s.Retract }, 0, 1 << 16},
		{"MinTime", func(s *api.Settings) *int { return &s.MinTime }, 0, 1 << 20},
		{"MinFeed", func(s *api.Settings) *int { return &s.MinFeed }, 1, 4000},
		{"Nozzle", func(s *api.Settings) *int { return &s.Nozzle }, 0, 400000},
		{"Bed", func(s *api.Settings) *int { return &s.Bed }, 0, 400000},
	}
}

// P35.1.
func TestValid(t *testing.T) {
	for _, b := range bounds() {
		for n, want := range map[int]bool{
			b.low: true, b.high: true, (b.low + b.high) / 4 * 2: true,
			b.low - 1: false, b.high + 1: false, b.low - 2: false, b.high + 2: false, math.MinInt: false, math.MaxInt: false, -b.high - 2: false,
		} {
			s := good()
			*b.field(&s) = n
			if Valid(s) != want {
				t.Errorf("%s = %d: Valid = %v", b.name, n, Valid(s))
			}
		}
	}
	odd := good()
	odd.Pitch = 41
	tall := good()
	tall.Height = 21
	slow := good()
	slow.Feed, slow.MinFeed = 1, 1
	slower := slow
	slower.MinFeed = 2
	supported := good()
	supported.Support = true
	if Valid(odd) || Valid(tall) || !Valid(slow) || Valid(slower) || !Valid(supported) || Valid(api.Settings{}) {
		t.Errorf("Valid: %v, %v, %v, %v, %v, %v", Valid(odd), Valid(tall), Valid(slow), Valid(slower), Valid(supported), Valid(api.Settings{}))
	}
}

// P35.2, P35.5.
func TestVolume(t *testing.T) {
	s := good()
	largest := s
	largest.Pitch, largest.Height = 1024, 1024
	for _, q := range []struct {
		cells int
		s     api.Settings
		want  int
	}{
		{0, s, 0}, {1, s, 32000}, {3, s, 96000}, {1 << 20, s, 32000 << 20}, {1<<20 + 1, s, 0}, {-1, s, 0}, {math.MaxInt, s, 0}, {math.MinInt, s, 0},
		{1 << 20, largest, 1 << 50}, {5, api.Settings{}, 0},
	} {
		if got := Volume(q.cells, q.s); got != q.want {
			t.Errorf("Volume(%d) = %d; want %d", q.cells, got, q.want)
		}
	}
	random := rand.New(rand.NewSource(35))
	for range 100 {
		a, b := random.Intn(1<<19), random.Intn(1<<19)
		if Volume(a, s)+Volume(b, s) != Volume(a+b, s) {
			t.Errorf("the volumes of %d and %d cells do not add up", a, b)
		}
	}
}

// ops returns operations: a positive number stands for a print of so many cells, the other ones for kinds.
const (
	retract = -api.OpRetract
	prime   = -api.OpPrime
	travel  = -api.OpTravel
	layer   = -api.OpLayer
	fan     = -api.OpFan
	unknown = -77
)

func ops(l ...int) []api.Op {
	var o []api.Op
	for _, n := range l {
		if n >= 0 {
			o = append(o, api.Op{Kind: api.OpPrint, Cells: make([]api.Cell, n)})
		} else {
			o = append(o, api.Op{Kind: -n, Cells: make([]api.Cell, 3)})
		}
	}
	return o
}

// P35.3.
func TestAmounts(t *testing.T) {
	s := good()
	coarse := s
	coarse.Drop = 50000
	for _, q := range []struct {
		l    []api.Op
		s    api.Settings
		want []int
		e    api.Errno
	}{
		{ops(2, retract, prime, 1), s, []int{64, 59, 64, 96}, api.OK},
		{nil, s, nil, api.OK},
		{ops(layer, fan, travel, unknown, 0), s, []int{0, 0, 0, 0, 0}, api.OK},
		{ops(retract, travel, layer, unknown, prime), s, []int{-5, -5, -5, -5, 0}, api.OK},
		{ops(1, 1, 1, 1, 1), coarse, []int{0, 1, 1, 2, 3}, api.OK},
		{ops(1, retract, travel), s, []int{32, 27, 27}, api.OK},
		{ops(1, retract, 1), s, nil, api.ErrOrder}, {ops(1, retract, 0), s, nil, api.ErrOrder}, {ops(retract, retract), s, nil, api.ErrOrder}, {ops(prime), s, nil, api.ErrOrder},
		{ops(retract, prime, prime), s, nil, api.ErrOrder}, {ops(retract, prime, 4), s, []int{-5, 0, 128}, api.OK},
		{ops(1 << 20), s, []int{32 << 20}, api.OK},
		{ops(1<<20, 1), s, nil, api.ErrLimit}, {ops(1<<20 + 1), s, nil, api.ErrLimit}, {ops(1<<20, 1, prime), s, nil, api.ErrLimit}, {ops(prime, 1<<20+1), s, nil, api.ErrOrder},
		{ops(retract, 1<<20+1), s, nil, api.ErrOrder}, {ops(1<<19, 1<<19, 0, travel), s, []int{16 << 20, 32 << 20, 32 << 20, 32 << 20}, api.OK},
		{ops(prime), api.Settings{}, nil, api.ErrArg}, {nil, api.Settings{}, nil, api.ErrArg},
	} {
		if got, e := Amounts(q.l, q.s); !slices.Equal(got, q.want) || e != q.e {
			t.Errorf("Amounts of %d operations = %v, %d; want %v, %d", len(q.l), got, e, q.want, q.e)
		}
	}
}

// P35.3, P35.4, P35.5.
func TestAnyAmounts(t *testing.T) {
	random := rand.New(rand.NewSource(36))
	for range 300 {
		s := good()
		s.Drop, s.Retract = 1+random.Intn(100000), random.Intn(20)
		var l []api.Op
		cells, retracted := 0, false
		for range random.Intn(12) {
			n := []int{random.Intn(9), travel, layer, fan, retract}[random.Intn(5)]
			if retracted && (n >= 0 || n == retract) {
				n = prime
			}
			l = append(l, ops(n)...)
			retracted = n == retract || retracted && n != prime
			cells += max(n, 0)
			got, e := Amounts(l, s)
			if e != api.OK || len(got) != len(l) {
				t.Fatalf("Amounts(%v) = %v, %d", l, got, e)
			}
			first, _ := Amounts(l[:len(l)-1], s)
			if !slices.Equal(first, got[:len(got)-1]) {
				t.Errorf("Amounts of the first operations of %v = %v, not %v", l, first, got)
			}
			at := got[len(got)-1]
			if retracted {
				at += s.Retract
			}
			if volume := Volume(cells, s); at*s.Drop > volume || at*s.Drop <= volume-s.Drop {
				t.Errorf("after %d cells E is at %d", cells, at)
			}
		}
	}
}
