package wire

import (
	"encoding/binary"
	"math"
	"math/big"
	"slices"
	"strings"
	"testing"

	"additive/api"
)

// samples are ints near the bounds of every width, and some between them.
func samples() []int {
	l := []int{math.MinInt, math.MinInt + 1, math.MaxInt - 1, math.MaxInt, -1000003, 1000003, 258, 0x0102030405060708, -0x0102030405060708}
	for bit := range 63 {
		for near := -2; near <= 2; near++ {
			l = append(l, 1<<bit+near, -1<<bit+near)
		}
	}
	slices.Sort(l)
	return slices.Compact(l)
}

// badWidths are no widths.
var badWidths = []int{math.MinInt, -8, -1, 0, 9, 16, 64, math.MaxInt}

type encoder func(n, width int) (string, api.Errno)
type decoder func(s string, at, width int) (int, int, api.Errno)

// bytesOf returns the last width bytes of n, as the standard library encodes it.
func bytesOf(n, width int) string {
	all := binary.BigEndian.AppendUint64(nil, uint64(n))
	return string(all[8-width:])
}

// between reports whether n is from lo to hi - 1, where both are multiples of a power of two that may not be an int.
func between(n int, lo, hi *big.Int) bool {
	exact := big.NewInt(int64(n))
	return exact.Cmp(lo) >= 0 && exact.Cmp(hi) < 0
}

// unsignedRange returns the bounds of the unsigned encodings of a width, the upper one excluded.
func unsignedRange(width int) (lo, hi *big.Int) {
	return new(big.Int), new(big.Int).Lsh(big.NewInt(1), uint(8*width))
}

// signedRange returns the bounds of the signed encodings of a width, the upper one excluded.
func signedRange(width int) (lo, hi *big.Int) {
	half := new(big.Int).Lsh(big.NewInt(1), uint(8*width-1))
	return new(big.Int).Neg(half), half
}

// checkEncoder compares an encoder with the standard library for all samples and widths.
func checkEncoder(t *testing.T, name string, f encoder, bounds func(width int) (lo, hi *big.Int)) {
	t.Helper()
	for width := 1; width <= 8; width++ {
		lo, hi := bounds(width)
		for _, n := range samples() {
			want, wantE := "", api.ErrOverflow
			if between(n, lo, hi) {
				want, wantE = bytesOf(n, width), api.OK
			}
			if got, e := f(n, width); got != want || e != wantE {
				t.Errorf("%s(%d, %d) = %q, %d; want %q, %d", name, n, width, got, e, want, wantE)
			}
		}
	}
}

// P2.1.
func TestNumbers(t *testing.T) {
	checkEncoder(t, "Uint", Uint, unsignedRange)
	checkEncoder(t, "Int", Int, signedRange)
}

// P2.1: the bounds of each kind, in words.
func TestNumbersAtTheBounds(t *testing.T) {
	for _, q := range []struct {
		name     string
		f        encoder
		n, width int
		want     string
		e        api.Errno
	}{
		{"Uint", Uint, 258, 2, "\x01\x02", api.OK},
		{"Uint", Uint, 0, 1, "\x00", api.OK},
		{"Uint", Uint, 255, 1, "\xff", api.OK},
		{"Uint", Uint, 256, 1, "", api.ErrOverflow},
		{"Uint", Uint, -1, 1, "", api.ErrOverflow},
		{"Uint", Uint, -1, 8, "", api.ErrOverflow},
		{"Uint", Uint, math.MinInt, 8, "", api.ErrOverflow},
		{"Uint", Uint, math.MaxInt, 8, "\x7f\xff\xff\xff\xff\xff\xff\xff", api.OK},
		{"Uint", Uint, 1<<56 - 1, 7, "\xff\xff\xff\xff\xff\xff\xff", api.OK},
		{"Uint", Uint, 1 << 56, 7, "", api.ErrOverflow},
		{"Int", Int, -1, 3, "\xff\xff\xff", api.OK},
		{"Int", Int, 127, 1, "\x7f", api.OK},
		{"Int", Int, 128, 1, "", api.ErrOverflow},
		{"Int", Int, -128, 1, "\x80", api.OK},
		{"Int", Int, -129, 1, "", api.ErrOverflow},
		{"Int", Int, -32768, 2, "\x80\x00", api.OK},
		{"Int", Int, math.MinInt, 8, "\x80\x00\x00\x00\x00\x00\x00\x00", api.OK},
		{"Int", Int, math.MaxInt, 8, "\x7f\xff\xff\xff\xff\xff\xff\xff", api.OK},
	} {
		if got, e := q.f(q.n, q.width); got != q.want || e != q.e {
			t.Errorf("%s(%d, %d) = %q, %d; want %q, %d", q.name, q.n, q.width, got, e, q.want, q.e)
		}
	}
}

// P2.1: ErrArg comes first.
func TestNumberWidths(t *testing.T) {
	for name, f := range map[string]encoder{"Uint": Uint, "Int": Int} {
		for _, width := range badWidths {
			for _, n := range []int{math.MinInt, -1, 0, 1, math.MaxInt} {
				if s, e := f(n, width); s != "" || e != api.ErrArg {
					t.Errorf("%s(%d, %d) = %q, %d; want ErrArg", name, n, width, s, e)
				}
			}
		}
	}
}

// P2.2.
func TestTakeNumbers(t *testing.T) {
	const s = "\x07\xff\xfe\x80\x00\x01\x02\x03\x04\x7f"
	for _, q := range []struct {
		at, width, unsigned, signed int
	}{
		{0, 1, 7, 7}, {1, 1, 255, -1}, {3, 1, 128, -128}, {9, 1, 127, 127},
		{0, 2, 0x07ff, 0x07ff}, {1, 2, 0xfffe, -2}, {3, 2, 0x8000, -0x8000}, {4, 2, 1, 1}, {8, 2, 0x047f, 0x047f},
		{1, 3, 0xfffe80, -0x180}, {2, 3, 0xfe8000, -0x18000}, {7, 3, 0x03047f, 0x03047f},
		{3, 4, 0x80000102, -0x7ffffefe}, {4, 5, 0x0001020304, 0x0001020304}, {3, 6, 0x800001020304, -0x7ffffefdfcfc},
		{3, 7, 0x8000010203047f, -0x7ffffefdfcfb81}, {0, 8, 0x07fffe8000010203, 0x07fffe8000010203},
	} {
		if n, after, e := TakeUint(s, q.at, q.width); n != q.unsigned || after != q.at+q.width || e != api.OK {
			t.Errorf("TakeUint(s, %d, %d) = %d, %d, %d; want %d", q.at, q.width, n, after, e, q.unsigned)
		}
		if n, after, e := TakeInt(s, q.at, q.width); n != q.signed || after != q.at+q.width || e != api.OK {
			t.Errorf("TakeInt(s, %d, %d) = %d, %d, %d; want %d", q.at, q.width, n, after, e, q.signed)
		}
	}
}

// P2.2: numbers that only an unsigned reading cannot return.
func TestTakeWidest(t *testing.T) {
	for s, signed := range map[string]int{
		"\x80\x00\x00\x00\x00\x00\x00\x00": math.MinInt,
		"\x80\x00\x00\x00\x00\x00\x00\x01": math.MinInt + 1,
		"\xff\xff\xff\xff\xff\xff\xff\xff": -1,
		"\xff\xff\xff\xff\xff\xff\xff\xfe": -2,
	} {
		if n, after, e := TakeUint(s, 0, 8); n != 0 || after != 0 || e != api.ErrOverflow {
			t.Errorf("TakeUint(%q, 0, 8) = %d, %d, %d; want ErrOverflow", s, n, after, e)
		}
		if n, after, e := TakeInt(s, 0, 8); n != signed || after != 8 || e != api.OK {
			t.Errorf("TakeInt(%q, 0, 8) = %d, %d, %d; want %d", s, n, after, e, signed)
		}
	}
	if n, after, e := TakeUint("\x7f\xff\xff\xff\xff\xff\xff\xff", 0, 8); n != math.MaxInt || after != 8 || e != api.OK {
		t.Errorf("the greatest int is read as %d, %d, %d", n, after, e)
	}
}

// P2.2: the errors, and their order.
func TestTakeNumberErrors(t *testing.T) {
	for name, f := range map[string]decoder{"TakeUint": TakeUint, "TakeInt": TakeInt} {
		fails := func(s string, at, width int, want api.Errno) {
			t.Helper()
			if n, after, e := f(s, at, width); n != 0 || after != 0 || e != want {
				t.Errorf("%s(%q, %d, %d) = %d, %d, %d; want error %d", name, s, at, width, n, after, e, want)
			}
		}
		for _, at := range []int{math.MinInt, -2, -1, 4, 5, math.MaxInt} {
			fails("\x01\x02\x03", at, 1, api.ErrArg)
			fails("\x01\x02\x03", at, 8, api.ErrArg)
		}
		for _, width := range badWidths {
			fails("\x01\x02\x03", 0, width, api.ErrArg)
			fails("\x01\x02\x03", 3, width, api.ErrArg)
			fails("", 0, width, api.ErrArg)
		}
		fails("", 0, 1, api.ErrTruncated)
		fails("", 1, 1, api.ErrArg)
		fails("\xff\xff\xff\xff\xff\xff\xff", 0, 8, api.ErrTruncated)
		fails("\xff\xff\xff\xff\xff\xff\xff\xff", 1, 8, api.ErrTruncated)
		for width := 1; width <= 8; width++ {
			fails("abc", 3, width, api.ErrTruncated)
			fails(strings.Repeat("a", width-1), 0, width, api.ErrTruncated)
			fails("xyz"+strings.Repeat("a", width-1), 3, width, api.ErrTruncated)
		}
	}
}

// P2.3.
func TestText(t *testing.T) {
	for _, length := range []int{0, 1, 2, 255, 256, 257, 65534, 65535} {
		s := strings.Repeat("ab\x00", length/3+1)[:length]
		want := bytesOf(length, 2) + s
		if got, e := Text(s); got != want || e != api.OK {
			t.Errorf("Text of %d bytes has %d bytes, error %d", length, len(got), e)
		}
	}
	for _, length := range []int{65536, 65537, 1 << 17} {
		if got, e := Text(strings.Repeat("a", length)); got != "" || e != api.ErrLimit {
			t.Errorf("Text of %d bytes has %d bytes, error %d; want ErrLimit", length, len(got), e)
		}
	}
	if got, e := Text("ab"); got != "\x00\x02ab" || e != api.OK {
		t.Errorf("Text(ab) = %q, %d", got, e)
	}
}

// P2.3: reading, and the errors in their order.
func TestTakeText(t *testing.T) {
	const s = "x\x00\x02ab\x00\x00\x01\x00"
	for _, q := range []struct {
		at, most int
		text     string
		after    int
		e        api.Errno
	}{
		{1, 2, "ab", 5, api.OK},
		{1, 3, "ab", 5, api.OK},
		{1, math.MaxInt, "ab", 5, api.OK},
		{1, 1, "", 0, api.ErrLimit},
		{1, 0, "", 0, api.ErrLimit},
		{1, -1, "", 0, api.ErrArg},
		{5, 0, "", 7, api.OK},
		{6, 1, "\x00", 9, api.OK}, // the text ends with s
		{6, 0, "", 0, api.ErrLimit},
		{7, 255, "", 0, api.ErrLimit},     // 256 bytes are too many, and do not follow either
		{7, 256, "", 0, api.ErrTruncated}, // 256 bytes do not follow
		{8, 9, "", 0, api.ErrTruncated},   // one byte is not a length
		{9, 9, "", 0, api.ErrTruncated},
		{9, -1, "", 0, api.ErrArg},
		{10, 9, "", 0, api.ErrArg},
		{-1, 9, "", 0, api.ErrArg},
		{math.MinInt, math.MinInt, "", 0, api.ErrArg},
		{math.MaxInt, math.MaxInt, "", 0, api.ErrArg},
		{0, math.MaxInt, "", 0, api.ErrTruncated}, // the length is "x" and 0
	} {
		if text, after, e := TakeText(s, q.at, q.most); text != q.text || after != q.after || e != q.e {
			t.Errorf("TakeText(s, %d, %d) = %q, %d, %d; want %q, %d, %d", q.at, q.most, text, after, e, q.text, q.after, q.e)
		}
	}
	if text, after, e := TakeText("", 0, 5); text != "" || after != 0 || e != api.ErrTruncated {
		t.Errorf("TakeText of nothing = %q, %d, %d", text, after, e)
	}
	longest := strings.Repeat("z", 65535)
	if text, after, e := TakeText("\xff\xff"+longest, 0, 65535); text != longest || after != 65537 || e != api.OK {
		t.Errorf("TakeText of the longest text: %d bytes, %d, %d", len(text), after, e)
	}
	if text, after, e := TakeText("\xff\xff"+longest[1:], 0, 65535); text != "" || after != 0 || e != api.ErrTruncated {
		t.Errorf("TakeText of a text without its last byte: %d bytes, %d, %d", len(text), after, e)
	}
}

// P2.4.
func TestPad(t *testing.T) {
	for _, q := range []struct {
		s    string
		n    int
		want string
		e    api.Errno
	}{
		{"a", 3, "a\x00\x00", api.OK},
		{"abc", 3, "abc", api.OK},
		{"abcd", 3, "", api.ErrLimit},
		{"", 0, "", api.OK},
		{"", 2, "\x00\x00", api.OK},
		{"a", 0, "", api.ErrLimit},
		{"", -1, "", api.ErrArg},
		{"a", -1, "", api.ErrArg},
		{"a", math.MinInt, "", api.ErrArg},
		{"a", 65537, "", api.ErrArg},
		{"a", math.MaxInt, "", api.ErrArg},
		{"a", 65536, "a" + strings.Repeat("\x00", 65535), api.OK},
		{strings.Repeat("a", 65536), 65536, strings.Repeat("a", 65536), api.OK},
		{strings.Repeat("a", 65537), 65536, "", api.ErrLimit},
		{strings.Repeat("a", 65538), 65537, "", api.ErrArg}, // ErrArg comes first
	} {
		if got, e := Pad(q.s, q.n); got != q.want || e != q.e {
			t.Errorf("Pad of %d bytes to %d has %d bytes, error %d; want %d bytes, error %d", len(q.s), q.n, len(got), e, len(q.want), q.e)
		}
	}
}

// P2.5: numbers, wherever they stand and whatever follows.
func TestNumberRoundTrips(t *testing.T) {
	for _, f := range []struct {
		put  encoder
		take decoder
	}{{Uint, TakeUint}, {Int, TakeInt}} {
		for width := 1; width <= 8; width++ {
			for _, n := range samples() {
				code, e := f.put(n, width)
				if e != api.OK {
					continue
				}
				for _, around := range [][2]string{{"", ""}, {"\xff", "\xff\xff"}, {"\x00\x80\x00", "\x80"}} {
					got, after, e := f.take(around[0]+code+around[1], len(around[0]), width)
					if got != n || after != len(around[0])+width || e != api.OK {
						t.Errorf("%d with %d bytes is read as %d, %d, %d", n, width, got, after, e)
					}
				}
			}
		}
	}
}

// P2.5: the bytes that are accepted are the encoding of the result.
func TestAcceptedBytes(t *testing.T) {
	for first := range 256 {
		for second := range 256 {
			code := string([]byte{byte(first), byte(second)})
			unsigned, _, _ := TakeUint(code, 0, 2)
			signed, _, _ := TakeInt(code, 0, 2)
			if back, e := Uint(unsigned, 2); back != code || e != api.OK {
				t.Errorf("Uint(%d, 2) = %q, %d; want %q", unsigned, back, e, code)
			}
			if back, e := Int(signed, 2); back != code || e != api.OK {
				t.Errorf("Int(%d, 2) = %q, %d; want %q", signed, back, e, code)
			}
		}
	}
}

// P2.5: texts.
func TestTextRoundTrips(t *testing.T) {
	for _, s := range []string{"", "a", "\x00", "\x00\x05", "N3 G28*16", strings.Repeat("\xff", 300), "\u00e4\xff"} {
		code, _ := Text(s)
		for _, around := range [][2]string{{"", ""}, {"ab", "\x00\x01"}} {
			got, after, e := TakeText(around[0]+code+around[1], len(around[0]), len(s))
			if got != s || after != len(around[0])+len(code) || e != api.OK {
				t.Errorf("%q is read as %q, %d, %d", s, got, after, e)
			}
		}
	}
}

// P2.6.
func TestOrder(t *testing.T) {
	numbers := samples()
	for width := 1; width <= 8; width++ {
		last := ""
		for _, n := range numbers {
			code, e := Uint(n, width)
			if e != api.OK {
				continue
			}
			if last >= code {
				t.Errorf("width %d: %q of %d is not above %q", width, code, n, last)
			}
			last = code
		}
	}
}

func FuzzTake(f *testing.F) {
	f.Add("\x07\xff\xfe", 1, 2)
	f.Add("\x00\x02ab", 0, 8)
	f.Add("", -1, 0)
	f.Fuzz(func(t *testing.T, s string, at, n int) {
		if unsigned, after, e := TakeUint(s, at, n); e == api.OK {
			if code, e := Uint(unsigned, n); e != api.OK || code != s[at:after] {
				t.Errorf("TakeUint read %d from %q", unsigned, s[at:after])
			}
		}
		if signed, after, e := TakeInt(s, at, n); e == api.OK {
			if code, e := Int(signed, n); e != api.OK || code != s[at:after] {
				t.Errorf("TakeInt read %d from %q", signed, s[at:after])
			}
		}
		if text, after, e := TakeText(s, at, n); e == api.OK {
			if code, e := Text(text); e != api.OK || code != s[at:after] || len(text) > n {
				t.Errorf("TakeText read %q from %q", text, s[at:after])
			}
		}
	})
}
