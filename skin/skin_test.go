package skin

import (
	"math"
	"math/rand"
	"testing"

	"additive/api"
	"additive/region"
)

// cells returns the region of the cells of a row for which the bits of a set are 1.
func cells(set uint) api.Region {
	var l []api.Cell
	for i := range 16 {
		if set>>i&1 == 1 {
			l = append(l, api.Cell{X: i % 4, Y: i / 4})
		}
	}
	r, _ := region.Of(l)
	return r
}

func invalid() api.Region {
	return api.Region{Rows: []api.Row{{Y: 0, Runs: []api.Run{{From: 5, To: 3}}}}}
}

// P28.1.
func TestSkin(t *testing.T) {
	equal := []api.Region{cells(15), cells(15), cells(15)}
	steps := []api.Region{cells(0b1111), cells(0b0111), cells(0b0011), cells(0b0001)}
	broken := []api.Region{cells(15), invalid(), cells(15), cells(15)}
	for _, q := range []struct {
		l              []api.Region
		i, top, bottom int
		solid, sparse  uint
	}{
		{equal, 1, 1, 1, 0, 15}, {equal, 2, 1, 1, 15, 0}, {equal, 0, 1, 1, 15, 0}, {equal, 0, 2, 0, 0, 15}, {equal, 0, 3, 0, 15, 0}, {equal, 2, 0, 2, 0, 15}, {equal, 2, 0, 3, 15, 0},
		{equal, 1, 0, 0, 0, 15}, {equal, 1, -1, -5, 0, 15}, {equal, 2, math.MinInt, 2, 0, 15}, {equal, 1, math.MaxInt, 0, 15, 0}, {equal, 1, 0, math.MaxInt, 15, 0},
		{equal, 3, 0, 0, 0, 0}, {equal, -1, 0, 0, 0, 0}, {equal, math.MaxInt, math.MaxInt, math.MaxInt, 0, 0}, {equal, math.MinInt, math.MaxInt, math.MaxInt, 0, 0}, {nil, 0, 1, 1, 0, 0},
		{steps, 0, 1, 0, 0b1000, 0b0111}, {steps, 0, 2, 0, 0b1100, 0b0011}, {steps, 0, 3, 0, 0b1110, 0b0001}, {steps, 1, 1, 1, 0b0100, 0b0011}, {steps, 3, 0, 3, 0, 1}, {steps, 3, 1, 0, 1, 0},
		{broken, 0, 1, 0, 15, 0}, {broken, 2, 0, 1, 15, 0}, {broken, 2, 1, 0, 0, 15}, {broken, 1, 0, 0, 0, 0}, {broken, 3, 0, 1, 0, 15}, {broken, 3, 0, 2, 15, 0},
		// The upper layers have cells that the layer does not have.
		{[]api.Region{cells(0b0110), cells(0b1101)}, 0, 1, 0, 0b0010, 0b0100},
	} {
		solid, sparse := Skin(q.l, q.i, q.top, q.bottom)
		if !region.Same(solid, cells(q.solid)) || !region.Same(sparse, cells(q.sparse)) {
			t.Errorf("Skin(%v, %d, %d, %d) = %v, %v", q.l, q.i, q.top, q.bottom, solid, sparse)
		}
	}
	solid, sparse := Skin(equal, 1, 0, 0)
	if len(solid.Rows) > 0 {
		t.Error("a solid cell without skins")
	}
	sparse.Rows[0].Runs[0].To = 99
	if !region.Same(equal[1], cells(15)) {
		t.Error("the result shares memory with the layer")
	}
}

// P28.1, P28.2, P28.3.
func TestAnyLayers(t *testing.T) {
	random := rand.New(rand.NewSource(28))
	for range 1000 {
		var l []api.Region
		var sets []uint
		for range random.Intn(7) {
			few, more := random.Intn(1<<16), random.Intn(1<<16)
			sets = append(sets, uint(few|more))
			l = append(l, cells(sets[len(sets)-1]))
		}
		i, top, bottom := random.Intn(9)-1, random.Intn(5)-1, random.Intn(5)-1
		at := func(k int) uint {
			if k < 0 || k >= len(sets) {
				return 0
			}
			return sets[k]
		}
		want := at(i)
		for k := 1; k <= top; k++ {
			want &= at(i + k)
		}
		for k := 1; k <= bottom; k++ {
			want &= at(i - k)
		}
		solid, sparse := Skin(l, i, top, bottom)
		if !region.Same(sparse, cells(want)) || !region.Same(solid, cells(at(i)&^want)) {
			t.Errorf("Skin(%v, %d, %d, %d) = %v, %v", l, i, top, bottom, solid, sparse)
		}
		more, _ := Skin(l, i, top+1, bottom+1)
		if !region.Within(solid, more) {
			t.Errorf("Skin(%v, %d, %d, %d) has the solid cells %v, and with more layers only %v", l, i, top, bottom, solid, more)
		}
	}
}
