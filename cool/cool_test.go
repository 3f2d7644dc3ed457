package cool

import (
	"math"
	"math/rand"
	"slices"
	"testing"

	"additive/api"
)

func settings(pitch, feed, least, time int) api.Settings {
	return api.Settings{Pitch: pitch, Height: 20, Spacing: 2, Drop: 1000, Feed: feed, Travel: 8000, MinFeed: least, MinTime: time}
}

func op(kind, cells, speed int) api.Op {
	return api.Op{Kind: kind, Cells: make([]api.Cell, cells), Speed: speed}
}

func same(a, b api.Op) bool {
	return a.Kind == b.Kind && a.Role == b.Role && a.Layer == b.Layer && a.Z == b.Z && a.Speed == b.Speed && slices.Equal(a.Cells, b.Cells)
}

// P36.1.
func TestTime(t *testing.T) {
	for _, q := range []struct {
		l    []api.Op
		want int
	}{
		{nil, 0}, {[]api.Op{op(api.OpPrint, 10, 3)}, 3334}, {[]api.Op{op(api.OpTravel, 10, 5)}, 2000}, {[]api.Op{op(api.OpTravel, 10, 3), op(api.OpPrint, 1, 3), op(api.OpPrint, 1, 3)}, 3334 + 334 + 334},
		{[]api.Op{op(api.OpPrint, 10, 0), op(api.OpPrint, 10, -3), op(api.OpTravel, 10, math.MinInt)}, 0},
		{[]api.Op{op(api.OpLayer, 10, 1), op(api.OpRetract, 10, 1), op(api.OpPrime, 10, 1), op(api.OpFan, 10, 1), op(0, 10, 1), op(7, 10, 1)}, 0},
		{[]api.Op{op(api.OpPrint, 0, 3), op(api.OpPrint, 1, math.MaxInt)}, 1}, {[]api.Op{op(api.OpPrint, 3, 1000), op(api.OpTravel, 3, 1001)}, 6},
	} {
		if got := Time(q.l); got != q.want {
			t.Errorf("Time(%v) = %d; want %d", q.l, got, q.want)
		}
	}
}

// P36.2.
func TestSlow(t *testing.T) {
	ten := []api.Op{op(api.OpPrint, 10, 10)}
	for _, q := range []struct {
		l    []api.Op
		s    api.Settings
		want int // the speed of the first operation
	}{
		{ten, settings(40, 400, 80, 2000), 5},
		{ten, settings(40, 400, 80, 2001), 4},
		{ten, settings(40, 400, 80, 1000), 10},
		{ten, settings(40, 400, 80, 1001), 9},
		{ten, settings(40, 400, 80, 0), 10},
		{ten, settings(40, 400, 80, 5000), 2},
		{ten, settings(40, 400, 80, 5001), 2},
		{ten, settings(40, 400, 119, 9999), 2},
		{ten, settings(40, 400, 39, 9999), 1},
		{ten, settings(40, 30, 30, 9999), 1},
		{ten, settings(40, 439, 400, 9999), 10},
		{[]api.Op{op(api.OpPrint, 10, 20)}, settings(40, 400, 80, 0), 10},     // never faster than the fastest speed
		{[]api.Op{op(api.OpPrint, 10, 3)}, settings(40, 400, 80, 3400), 2},    // slower than that already
		{[]api.Op{op(api.OpPrint, 10, 3)}, settings(40, 400, 80, 3334), 3},    // and slow enough
		{[]api.Op{op(api.OpPrint, 10, -3)}, settings(40, 400, 80, 3334), -3},  // without a speed
		{[]api.Op{op(api.OpTravel, 10, 10)}, settings(40, 400, 80, 9999), 10}, // no print
		{[]api.Op{op(api.OpPrint, 10, 99)}, settings(41, 400, 80, 2000), 99},  // settings that are not valid
		{[]api.Op{op(api.OpPrint, 10, 99)}, settings(40, 400, 401, 2000), 99}, // the same
		{[]api.Op{op(api.OpFan, 0, 255), ten[0]}, settings(40, 400, 80, 0), 255},
	} {
		given := slices.Clone(q.l)
		got := Slow(q.l, q.s)
		if len(got) != len(q.l) || got[0].Speed != q.want || !slices.EqualFunc(q.l, given, same) {
			t.Errorf("Slow(%v, %v) = %v; want the speed %d", q.l, q.s, got, q.want)
		}
		for i := range got {
			if len(got[i].Cells) > 0 {
				got[i].Cells[0].X = 77
				if q.l[i].Cells[0].X == 77 {
					t.Fatal("the result shares memory with the argument")
				}
			}
		}
	}
	if got := Slow(nil, settings(40, 400, 80, 500)); len(got) != 0 {
		t.Errorf("Slow of nothing = %v", got)
	}
}

// P36.1, P36.2: all speeds, one by one.
func TestAnyOperations(t *testing.T) {
	random := rand.New(rand.NewSource(36))
	between := 0
	for range 500 {
		s := settings(32+2*random.Intn(20), 1+random.Intn(2000), 1, random.Intn(20000))
		s.MinFeed = 1 + random.Intn(s.Feed)
		var l []api.Op
		for range random.Intn(9) {
			o := op(1+random.Intn(6), random.Intn(40), random.Intn(70)-3)
			o.Role, o.Layer, o.Z = random.Intn(8), random.Intn(9), random.Intn(99)
			l = append(l, o)
		}
		slowest, fastest := max(1, s.MinFeed/s.Pitch), max(1, s.Feed/s.Pitch)
		best := slowest
		var want []api.Op
		for v := slowest; v <= fastest; v++ {
			limit, time := slices.Clone(l), 0
			for i, o := range l {
				if o.Kind == api.OpPrint && o.Speed > v {
					limit[i].Speed = v
				}
				if n := len(o.Cells) * 1000; (o.Kind == api.OpPrint || o.Kind == api.OpTravel) && o.Speed > 0 {
					time += (n + limit[i].Speed - 1) / limit[i].Speed
				}
			}
			if time != Time(limit) {
				t.Errorf("Time(%v) = %d; want %d", limit, Time(limit), time)
			}
			if v == slowest || time >= s.MinTime {
				best, want = v, limit
			}
		}
		if best > slowest && best < fastest {
			between++
		}
		if got := Slow(l, s); !slices.EqualFunc(got, want, same) {
			t.Errorf("Slow(%v, %v) = %v; want %v", l, s, got, want)
		}
	}
	if between < 20 {
		t.Errorf("only %d speeds are between the slowest and the fastest one", between)
	}
}
