package journal

import (
	"math"
	"math/rand"
	"slices"
	"strings"
	"testing"

	"additive/api"
	"additive/flash"
	"additive/sum"
)

type positions4 = [api.Motors]int

func record(seq int) api.Record {
	return api.Record{Kind: api.ReBlock, Seq: seq, Line: 7, Done: 3, From: positions4{1, -2, 3, -4}, To: positions4{5, 6, -7, 8}}
}

func memory(pages int) api.Flash {
	f, e := flash.New(pages)
	if e != api.OK {
		panic("no memory")
	}
	return f
}

func same(f, g api.Flash) bool {
	return slices.Equal(f.Pages, g.Pages) && f.Fuse == g.Fuse && f.Dead == g.Dead && f.Keep == g.Keep
}

// P52.1.
func TestValid(t *testing.T) {
	for _, q := range []struct {
		name      string
		field     func(*api.Record) *int
		low, high int
	}{
		{"Kind", func(r *api.Record) *int { return &r.Kind }, 1, 3}, {"Seq", func(r *api.Record) *int { return &r.Seq }, 1, 1 << 40}, {"Line", func(r *api.Record) *int { return &r.Line }, 0, 1 << 40},
		{"Done", func(r *api.Record) *int { return &r.Done }, 0, 1 << 24}, {"From", func(r *api.Record) *int { return &r.From[2] }, -1 << 31, 1<<31 - 1}, {"To", func(r *api.Record) *int { return &r.To[3] }, -1 << 31, 1<<31 - 1},
	} {
		for n, want := range map[int]bool{q.low: true, q.high: true, q.low - 1: false, q.high + 1: false, math.MinInt: false, math.MaxInt: false} {
			r := record(5)
			*q.field(&r) = n
			if Valid(r) != want {
				t.Errorf("%s = %d: Valid = %v", q.name, n, Valid(r))
			}
			code, e := Encode(r)
			if !want && (code != "" || e != api.ErrArg) || want && (len(code) != api.Page || e != api.OK) {
				t.Errorf("%s = %d: Encode = %q, %d", q.name, n, code, e)
			}
			if got, e := Decode(code); want && (got != r || e != api.OK) {
				t.Errorf("%s = %d: Decode = %v, %d", q.name, n, got, e)
			}
			if f, e := Append(memory(2), r); !want && (e != api.ErrArg || !same(f, memory(2))) {
				t.Errorf("%s = %d: Append = %d", q.name, n, e)
			}
		}
	}
}

// P52.1: the layout.
func TestEncode(t *testing.T) {
	code, e := Encode(api.Record{Kind: 1, Seq: 258})
	if e != api.OK || code[:7] != "\x00\x00\x00\x00\x01\x02\x01" || code[58:] != "\x00\x00\x00\x00\x01\x02" {
		t.Errorf("Encode = %q, %d", code, e)
	}
	body := "\x00\x12\x34\x56\x78\x9a" + "\x02" + "\x00\xff\x03\x04\x05\x06" + "\x00\xa1\xb2\xc3" +
		"\x00\x00\x00\x01\xff\xff\xff\xff\x00\x00\x01\x00\x80\x00\x00\x00" + "\x7f\xff\xff\xff\x00\x00\x00\x00\xff\xff\xff\xfe\x00\x00\x00\x07"
	crc := sum.CRC16(body)
	want := body + string([]byte{byte(crc >> 8), byte(crc)}) + strings.Repeat("\x00", 7) + "\x00\x12\x34\x56\x78\x9a"
	r := api.Record{Kind: 2, Seq: 0x123456789a, Line: 0xff03040506, Done: 0xa1b2c3, From: positions4{1, -1, 256, -1 << 31}, To: positions4{1<<31 - 1, 0, -2, 7}}
	if code, e := Encode(r); code != want || e != api.OK {
		t.Errorf("Encode = %q, %d; want %q", code, e, want)
	}
	if got, e := Decode(want); got != r || e != api.OK {
		t.Errorf("Decode = %v, %d; want %v", got, e, r)
	}
}

// sealed returns a code whose checksum is that of its other bytes.
func sealed(code string) string {
	crc := sum.CRC16(code[:49])
	return code[:49] + string([]byte{byte(crc >> 8), byte(crc)}) + code[51:]
}

// P52.1: codes that are none.
func TestDecodeErrors(t *testing.T) {
	code, _ := Encode(record(5))
	change := func(i int, b byte) string { return code[:i] + string([]byte{b}) + code[i+1:] }
	for s, want := range map[string]api.Errno{
		"": api.ErrTruncated, code[:63]: api.ErrTruncated, code + "x": api.ErrCorrupt, strings.Repeat("\x00", 64): api.ErrCorrupt, strings.Repeat("\xff", 64): api.ErrCorrupt, strings.Repeat("\x00", 63): api.ErrTruncated,
		sealed(change(6, 0)): api.ErrCorrupt, sealed(change(6, 4)): api.ErrCorrupt, sealed(change(7, 2)): api.ErrCorrupt, sealed(change(13, 1)): api.ErrCorrupt, sealed(change(13, 2)): api.ErrCorrupt,
		sealed(change(5, 0))[:58] + strings.Repeat("\x00", 6): api.ErrCorrupt, sealed(change(5, 6)): api.ErrCorrupt,
	} {
		if r, e := Decode(s); r != (api.Record{}) || e != want {
			t.Errorf("Decode(%q) = %v, %d; want %d", s, r, e, want)
		}
	}
	for i := range len(code) {
		for b := range 256 {
			if s := change(i, byte(b)); s != code {
				if r, e := Decode(s); r != (api.Record{}) || e != api.ErrCorrupt {
					t.Errorf("Decode of a code with another byte %d = %v, %d", i, r, e)
				}
			}
		}
	}
}

// withPages returns a memory with these pages.
func withPages(pages ...string) api.Flash { return api.Flash{Pages: pages} }

// P52.2.
func TestAllAndLast(t *testing.T) {
	empty := strings.Repeat("\x00", api.Page)
	code := func(seq int) string {
		s, _ := Encode(record(seq))
		return s
	}
	dead := withPages(code(2), code(1))
	dead.Dead = true
	for i, q := range []struct {
		f    api.Flash
		want []int
	}{
		{memory(2), nil}, {withPages(code(2), code(1)), []int{1, 2}}, {withPages(code(4), code(3)), []int{3, 4}}, {withPages(code(1), code(2)), nil}, {withPages(code(6), code(7), code(5)), []int{5, 6, 7}},
		{withPages(code(6), empty, code(5)), []int{5, 6}}, {withPages(code(6)[:60]+"abcd", code(4), empty), []int{4}}, {withPages(code(3), code(4), code(2)), []int{2, 3, 4}}, {withPages(code(9), code(4), code(2)), []int{2, 4, 9}},
		{withPages(code(9), code(9), code(9)), []int{9}}, {dead, nil}, {withPages(code(1)), nil}, {withPages(code(2), code(1)+"x"), nil}, {api.Flash{}, nil}, {withPages(empty, code(1<<40-1)), []int{1<<40 - 1}},
	} {
		got := All(q.f)
		var seqs []int
		for _, r := range got {
			seqs = append(seqs, r.Seq)
			if r != record(r.Seq) {
				t.Errorf("case %d: the record %v", i, r)
			}
		}
		last, found := Last(q.f)
		if !slices.Equal(seqs, q.want) || found != (len(q.want) > 0) || found && last != got[len(got)-1] || !found && last != (api.Record{}) {
			t.Errorf("case %d: All = %v, Last = %v, %v; want %v", i, seqs, last, found, q.want)
		}
	}
}

// P52.3: the errors, in their order.
func TestAppendErrors(t *testing.T) {
	two, _ := Append(memory(3), record(1))
	two, _ = Append(two, record(2))
	dead := flash.Fail(two, 0, 0)
	broken := two
	broken.Fuse = -1
	for i, q := range []struct {
		f api.Flash
		r api.Record
		e api.Errno
	}{
		{memory(2), record(1), api.OK}, {memory(2), record(2), api.ErrOrder}, {memory(2), record(0), api.ErrArg}, {two, record(3), api.OK}, {two, record(2), api.ErrOrder}, {two, record(4), api.ErrOrder}, {two, record(1), api.ErrOrder},
		{two, api.Record{Seq: 9}, api.ErrArg}, {dead, record(3), api.ErrPower}, {dead, record(9), api.ErrPower}, {dead, record(0), api.ErrArg}, {broken, record(3), api.ErrArg}, {api.Flash{}, record(1), api.ErrArg}, {flash.Fail(two, 1, 5), record(9), api.ErrOrder},
	} {
		given := slices.Clone(q.f.Pages)
		f, e := Append(q.f, q.r)
		if e != q.e || e != api.OK && !same(f, q.f) || !slices.Equal(q.f.Pages, given) {
			t.Errorf("case %d: Append = %v, %d; want %d", i, f, e, q.e)
		}
		if e != api.OK && len(f.Pages) > 0 {
			f.Pages[0] = "x"
			if q.f.Pages[0] == "x" {
				t.Errorf("case %d: the result shares its pages", i)
			}
		}
		if last, _ := Last(f); e == api.OK && last != q.r {
			t.Errorf("case %d: the last record is %v", i, last)
		}
	}
	torn, e := Append(flash.Fail(two, 1, 5), record(3))
	if last, found := Last(flash.Power(torn)); e != api.ErrPower || !torn.Dead || last != record(2) || !found {
		t.Errorf("a torn record: %v, %d, and then %v", torn, e, last)
	}
}

// P52.4, P52.5: power failures in any writes, torn at any byte.
func TestSurvival(t *testing.T) {
	random := rand.New(rand.NewSource(52))
	for range 300 {
		pages := 2 + random.Intn(4)
		f := memory(pages)
		written, failed := api.Record{}, []api.Record{}
		var all []api.Record
		for range 30 {
			last, _ := Last(f)
			r := record(last.Seq + 1)
			r.Line, r.Done, r.From[0], r.Kind = random.Intn(1<<20), random.Intn(1<<20), random.Intn(1<<20), 1+random.Intn(3)
			if random.Intn(3) == 0 {
				f = flash.Fail(f, 1, random.Intn(api.Page+1))
			}
			next, e := Append(f, r)
			f = flash.Power(next)
			if e == api.OK {
				written, failed = r, nil
				all = append(all, r)
			} else {
				failed = append(failed, r)
			}
			last, _ = Last(f)
			if last != written && !slices.Contains(failed, last) {
				t.Fatalf("the last record is %v; written was %v, and then failed %v", last, written, failed)
			}
			if last != written {
				written, failed = last, nil
				all = append(all, last)
			}
		}
		if got := All(f); len(all) > pages && len(failed) == 0 && !slices.Equal(got, all[len(all)-len(got):]) {
			t.Errorf("the records are %v; want the last ones of %v", got, all)
		}
	}
	f := memory(4)
	for seq := 1; seq <= 20; seq++ {
		f, _ = Append(f, record(seq))
		if got := All(f); len(got) != min(seq, 4) || got[0].Seq != max(1, seq-3) || got[len(got)-1].Seq != seq {
			t.Errorf("after %d records there are %v", seq, got)
		}
	}
}
