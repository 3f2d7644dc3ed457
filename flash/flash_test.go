package flash

import (
	"math"
	"math/rand"
	"slices"
	"strings"
	"testing"

	"additive/api"
)

// page returns a page that consists of a letter.
func page(letter string) string { return strings.Repeat(letter, api.Page) }

func memory(pages int) api.Flash {
	f, e := New(pages)
	if e != api.OK {
		panic("no memory")
	}
	return f
}

func same(f, g api.Flash) bool {
	return slices.Equal(f.Pages, g.Pages) && f.Fuse == g.Fuse && f.Dead == g.Dead && f.Keep == g.Keep
}

// with returns a memory of two pages that is changed.
func with(change func(*api.Flash)) api.Flash {
	f := memory(2)
	change(&f)
	return f
}

// invalid returns memories that are not valid, each for another reason.
func invalid() []api.Flash {
	return []api.Flash{
		{}, with(func(f *api.Flash) { f.Pages = f.Pages[:1] }), {Pages: slices.Repeat([]string{page("a")}, 257)}, with(func(f *api.Flash) { f.Pages[1] += "x" }), with(func(f *api.Flash) { f.Pages[0] = "" }),
		with(func(f *api.Flash) { f.Fuse = -1 }), with(func(f *api.Flash) { f.Fuse = 1<<20 + 1 }), with(func(f *api.Flash) { f.Keep = -1 }), with(func(f *api.Flash) { f.Keep = 65 }), with(func(f *api.Flash) { f.Fuse, f.Dead = math.MinInt, true }),
	}
}

// P51.1, P51.2.
func TestNewAndValid(t *testing.T) {
	for pages, want := range map[int]api.Errno{2: api.OK, 256: api.OK, 1: api.ErrArg, 0: api.ErrArg, -5: api.ErrArg, 257: api.ErrArg, math.MaxInt: api.ErrArg} {
		f, e := New(pages)
		if e != want || e != api.OK && !same(f, api.Flash{}) {
			t.Errorf("New(%d): error %d; want %d", pages, e, want)
		}
		if e != api.OK {
			continue
		}
		if !Valid(f) || len(f.Pages) != pages || f.Dead || f.Fuse != 0 || f.Keep != 0 {
			t.Errorf("New(%d) = %v", pages, f)
		}
		for i := range f.Pages {
			if got, e := Read(f, i); got != page("\x00") || e != api.OK {
				t.Errorf("page %d of a new memory is %q, %d", i, got, e)
			}
		}
	}
	for _, f := range []api.Flash{with(func(f *api.Flash) { f.Fuse, f.Keep = 1<<20, 64 }), with(func(f *api.Flash) { f.Dead = true }), with(func(f *api.Flash) { f.Dead, f.Fuse, f.Keep = true, 5, 5 })} {
		if !Valid(f) {
			t.Errorf("%v is not valid", f)
		}
	}
	for i, f := range invalid() {
		if Valid(f) {
			t.Errorf("invalid memory %d is valid", i)
		}
	}
}

// P51.3, P51.4, P51.5, P51.6: the example.
func TestExample(t *testing.T) {
	f, e := Write(memory(2), 1, page("a"))
	if e != api.OK {
		t.Fatalf("Write: error %d", e)
	}
	f = Fail(f, 1, 3)
	f, e = Write(f, 1, page("b"))
	if e != api.ErrPower || !f.Dead || f.Fuse != 0 || f.Keep != 0 {
		t.Errorf("Write without power = %v, %d", f, e)
	}
	if got, e := Read(f, 1); got != "" || e != api.ErrPower {
		t.Errorf("Read without power = %q, %d", got, e)
	}
	f = Power(f)
	if got, e := Read(f, 1); got != "bbb"+page("a")[3:] || e != api.OK {
		t.Errorf("Read = %q, %d", got, e)
	}
	if got, e := Read(f, 0); got != page("\x00") || e != api.OK {
		t.Errorf("Read of the other page = %q, %d", got, e)
	}
}

// P51.3, P51.4: the errors, in their order; the memory is returned unchanged.
func TestErrors(t *testing.T) {
	dead := with(func(f *api.Flash) { f.Dead = true })
	for i, q := range []struct {
		f     api.Flash
		at    int
		data  string
		read  api.Errno
		write api.Errno
	}{
		{memory(2), 1, page("a"), api.OK, api.OK}, {memory(2), 2, page("a"), api.ErrArg, api.ErrArg}, {memory(2), -1, page("a"), api.ErrArg, api.ErrArg}, {memory(2), math.MaxInt, page("a"), api.ErrArg, api.ErrArg}, {memory(2), math.MinInt, page("a"), api.ErrArg, api.ErrArg},
		{memory(2), 0, page("a")[1:], api.OK, api.ErrArg}, {memory(2), 0, page("a") + "a", api.OK, api.ErrArg}, {memory(2), 0, "", api.OK, api.ErrArg},
		{dead, 0, page("a"), api.ErrPower, api.ErrPower}, {dead, 2, page("a"), api.ErrArg, api.ErrArg}, {dead, 0, "a", api.ErrPower, api.ErrArg}, {invalid()[5], 0, page("a"), api.ErrArg, api.ErrArg},
	} {
		if got, e := Read(q.f, q.at); e != q.read || e != api.OK && got != "" {
			t.Errorf("case %d: Read = %q, %d; want %d", i, got, e, q.read)
		}
		given := slices.Clone(q.f.Pages)
		got, e := Write(q.f, q.at, q.data)
		if e != q.write || e != api.OK && !same(got, q.f) || !slices.Equal(q.f.Pages, given) {
			t.Errorf("case %d: Write = %v, %d; want %d", i, got, e, q.write)
		}
	}
	for i, f := range invalid() {
		if got, e := Write(f, 0, page("a")); e != api.ErrArg || !same(got, f) {
			t.Errorf("Write to invalid memory %d: %d", i, e)
		}
		if _, e := Read(f, 0); e != api.ErrArg {
			t.Errorf("Read of invalid memory %d: %d", i, e)
		}
		if !same(Fail(f, 1, 1), f) || !same(Fail(f, 0, 1), f) || !same(Power(f), f) {
			t.Errorf("Fail or Power change invalid memory %d", i)
		}
	}
}

// P51.5, P51.6.
func TestFailAndPower(t *testing.T) {
	for _, q := range []struct{ n, keep, fuse, kept int }{
		{1, 0, 1, 0}, {5, 64, 5, 64}, {7, 65, 7, 64}, {7, -1, 7, 0}, {1 << 20, 3, 1 << 20, 3}, {1<<20 + 1, 3, 1 << 20, 3}, {math.MaxInt, math.MaxInt, 1 << 20, 64}, {2, math.MinInt, 2, 0},
	} {
		want := with(func(f *api.Flash) { f.Fuse, f.Keep = q.fuse, q.kept })
		if got := Fail(memory(2), q.n, q.keep); !same(got, want) || !same(Power(got), memory(2)) {
			t.Errorf("Fail(%d, %d) = %v", q.n, q.keep, got)
		}
	}
	dead := with(func(f *api.Flash) { f.Dead = true })
	for _, n := range []int{0, -1, math.MinInt} {
		if got := Fail(Fail(memory(2), 5, 5), n, 7); !same(got, dead) {
			t.Errorf("Fail(%d) = %v", n, got)
		}
	}
	waiting := with(func(f *api.Flash) { f.Dead, f.Fuse, f.Keep = true, 4, 5 })
	if !same(Fail(waiting, 1, 1), waiting) || !same(Fail(waiting, 0, 1), waiting) || !same(Power(waiting), memory(2)) {
		t.Errorf("Fail of a dead memory = %v, Power = %v", Fail(waiting, 1, 1), Power(waiting))
	}
	if got := Power(with(func(f *api.Flash) { f.Keep = 9 })); !same(got, memory(2)) {
		t.Errorf("Power = %v", got)
	}
}

// P51.4 to P51.6: the results have lists of pages of their own.
func TestNewMemory(t *testing.T) {
	f := memory(2)
	written, _ := Write(f, 0, page("a"))
	refused, _ := Write(f, 5, page("a"))
	for i, got := range []api.Flash{written, refused, Fail(f, 1, 1), Fail(f, 0, 0), Power(f)} {
		got.Pages[1] = "x"
		if f.Pages[1] == "x" {
			t.Fatalf("memory %d shares its pages", i)
		}
	}
}

// P51.3 to P51.6: any operations, compared with a model.
func TestAnyOperations(t *testing.T) {
	random := rand.New(rand.NewSource(51))
	torn := 0
	for range 200 {
		pages := 2 + random.Intn(4)
		f := memory(pages)
		model := slices.Clone(f.Pages)
		fuse, keep, dead := 0, 0, false
		for range 50 {
			switch random.Intn(8) {
			case 0:
				n, k := random.Intn(5), random.Intn(api.Page+1)
				f = Fail(f, n, k)
				if !dead {
					fuse, keep, dead = n, k, n == 0
				}
			case 1, 2:
				f = Power(f)
				fuse, dead = 0, false
			default:
				i, data := random.Intn(pages), page(string(rune('a'+random.Intn(26))))
				before := slices.Clone(f.Pages)
				next, e := Write(f, i, data)
				if !slices.Equal(f.Pages, before) {
					t.Fatal("Write has changed the memory that it was given")
				}
				f = next
				if dead != (e == api.ErrPower) && !(fuse == 1 && e == api.ErrPower) || e != api.OK && e != api.ErrPower {
					t.Fatalf("Write: error %d", e)
				}
				if dead {
					break
				}
				if fuse == 1 {
					model[i] = data[:keep] + model[i][keep:]
					dead = true
					torn++
				} else {
					model[i] = data
				}
				fuse = max(0, fuse-1)
			}
			if !Valid(f) || !slices.Equal(f.Pages, model) || f.Dead != dead {
				t.Fatalf("the memory is %v; want %v, %v", f, model, dead)
			}
		}
	}
	if torn < 100 {
		t.Errorf("only %d writes failed", torn)
	}
}
