package num

import (
	"math"
	"math/big"
	"strconv"
	"strings"
	"testing"

	"additive/api"
)

// edges are ints near the places where a result leaves the range, changes its sign or is rounded.
var edges = []int{
	math.MinInt, math.MinInt + 1, math.MinInt + 2, math.MinInt/2 - 1, math.MinInt / 2, math.MinInt/2 + 1,
	-1 << 32, -3037000500, -3037000499, -1000000007, -10, -7, -3, -2, -1, 0, 1, 2, 3, 7, 10, 1000000007,
	3037000499, 3037000500, 1 << 32, 1<<62 - 1, 1 << 62, 1<<62 + 1, math.MaxInt - 2, math.MaxInt - 1, math.MaxInt,
}

// fit returns what a function owes whose exact result is n.
func fit(n *big.Int) (int, api.Errno) {
	if !n.IsInt64() {
		return 0, api.ErrOverflow
	}
	return int(n.Int64()), api.OK
}

// floorBig returns a / b, rounded down, where b is not 0.
func floorBig(a, b *big.Int) *big.Int {
	if b.Sign() < 0 {
		a, b = new(big.Int).Neg(a), new(big.Int).Neg(b)
	}
	return new(big.Int).Div(a, b) // Div rounds down where the divisor is positive
}

// roundBig returns the integer nearest to a / b, ties upward, where b is not 0.
func roundBig(a, b *big.Int) *big.Int {
	double := new(big.Int).Lsh(b, 1)
	return floorBig(new(big.Int).Add(new(big.Int).Lsh(a, 1), b), double)
}

func whole(n int) *big.Int {
	return big.NewInt(int64(n))
}

type binary func(a, b int) (int, api.Errno)

// compare calls f with all pairs of edges and compares it with the exact result.
func compare(t *testing.T, name string, f binary, exact func(a, b *big.Int) *big.Int) {
	t.Helper()
	for _, a := range edges {
		for _, b := range edges {
			want, wantE := fit(exact(whole(a), whole(b)))
			if got, e := f(a, b); got != want || e != wantE {
				t.Errorf("%s(%d, %d) = %d, %d; want %d, %d", name, a, b, got, e, want, wantE)
			}
		}
	}
}

// P1.1.
func TestSumsAndProducts(t *testing.T) {
	compare(t, "Add", Add, func(a, b *big.Int) *big.Int { return new(big.Int).Add(a, b) })
	compare(t, "Sub", Sub, func(a, b *big.Int) *big.Int { return new(big.Int).Sub(a, b) })
	compare(t, "Mul", Mul, func(a, b *big.Int) *big.Int { return new(big.Int).Mul(a, b) })
}

// P1.1.
func TestSumsAndProductsAtTheBounds(t *testing.T) {
	for _, q := range []struct {
		name       string
		f          binary
		a, b, want int
		e          api.Errno
	}{
		{"Add", Add, 2, 3, 5, api.OK},
		{"Add", Add, math.MaxInt, 0, math.MaxInt, api.OK},
		{"Add", Add, math.MaxInt, 1, 0, api.ErrOverflow},
		{"Add", Add, math.MinInt, -1, 0, api.ErrOverflow},
		{"Add", Add, math.MinInt, math.MaxInt, -1, api.OK},
		{"Add", Add, math.MinInt, math.MinInt, 0, api.ErrOverflow},
		{"Sub", Sub, 2, 3, -1, api.OK},
		{"Sub", Sub, math.MinInt, 1, 0, api.ErrOverflow},
		{"Sub", Sub, 0, math.MinInt, 0, api.ErrOverflow},
		{"Sub", Sub, -1, math.MinInt, math.MaxInt, api.OK},
		{"Sub", Sub, math.MinInt, math.MinInt, 0, api.OK},
		{"Mul", Mul, -2, 3, -6, api.OK},
		{"Mul", Mul, math.MinInt, -1, 0, api.ErrOverflow},
		{"Mul", Mul, -1, math.MinInt, 0, api.ErrOverflow},
		{"Mul", Mul, math.MinInt, 1, math.MinInt, api.OK},
		{"Mul", Mul, 1 << 62, -2, math.MinInt, api.OK},
		{"Mul", Mul, 1 << 62, 2, 0, api.ErrOverflow},
		{"Mul", Mul, 1 << 32, 1 << 32, 0, api.ErrOverflow},
		{"Mul", Mul, 0, math.MinInt, 0, api.OK},
	} {
		if got, e := q.f(q.a, q.b); got != q.want || e != q.e {
			t.Errorf("%s(%d, %d) = %d, %d; want %d, %d", q.name, q.a, q.b, got, e, q.want, q.e)
		}
	}
}

// P1.2.
func TestQuotients(t *testing.T) {
	for _, q := range []struct{ a, b, floor, round int }{
		{7, 2, 3, 4}, {-7, 2, -4, -3}, {7, -2, -4, -3}, {-7, -2, 3, 4},
		{5, 2, 2, 3}, {-5, 2, -3, -2},
		{1, 3, 0, 0}, {2, 3, 0, 1}, {-1, 3, -1, 0}, {-2, 3, -1, -1}, {1, -3, -1, 0}, {2, -3, -1, -1},
		{6, 3, 2, 2}, {-6, 3, -2, -2}, {0, 5, 0, 0}, {0, -5, 0, 0},
		{math.MinInt, 1, math.MinInt, math.MinInt},
		{math.MaxInt, -1, -math.MaxInt, -math.MaxInt},
		{math.MaxInt, math.MinInt, -1, -1},
		{math.MinInt, math.MaxInt, -2, -1},
		{math.MinInt, math.MinInt, 1, 1},
		{1, math.MinInt, -1, 0},
		{1 << 62, math.MinInt, -1, 0},
		{-1 << 62, math.MinInt, 0, 1},
		{1 << 62, math.MaxInt, 0, 1},
		{1<<62 - 1, math.MaxInt, 0, 0},
	} {
		if n, e := Floor(q.a, q.b); n != q.floor || e != api.OK {
			t.Errorf("Floor(%d, %d) = %d, %d; want %d", q.a, q.b, n, e, q.floor)
		}
		if n, e := Round(q.a, q.b); n != q.round || e != api.OK {
			t.Errorf("Round(%d, %d) = %d, %d; want %d", q.a, q.b, n, e, q.round)
		}
	}
}

// compareQuotient calls f and compares it with the exact quotient.
func compareQuotient(t *testing.T, name string, f binary, exact func(a, b *big.Int) *big.Int, a, b int) {
	t.Helper()
	want, wantE := 0, api.ErrDivide
	if b != 0 {
		want, wantE = fit(exact(whole(a), whole(b)))
	}
	if got, e := f(a, b); got != want || e != wantE {
		t.Errorf("%s(%d, %d) = %d, %d; want %d, %d", name, a, b, got, e, want, wantE)
	}
}

// P1.2.
func TestQuotientsAreExact(t *testing.T) {
	for _, a := range edges {
		for _, b := range edges {
			compareQuotient(t, "Floor", Floor, floorBig, a, b)
			compareQuotient(t, "Round", Round, roundBig, a, b)
		}
	}
	for a := -40; a <= 40; a++ {
		for b := -12; b <= 12; b++ {
			compareQuotient(t, "Floor", Floor, floorBig, a, b)
			compareQuotient(t, "Round", Round, roundBig, a, b)
		}
	}
}

// P1.2: the errors.
func TestQuotientErrors(t *testing.T) {
	for name, f := range map[string]binary{"Floor": Floor, "Round": Round} {
		for _, a := range edges {
			if n, e := f(a, 0); n != 0 || e != api.ErrDivide {
				t.Errorf("%s(%d, 0) = %d, %d", name, a, n, e)
			}
			if _, e := f(a, -1); (e == api.ErrOverflow) != (a == math.MinInt) {
				t.Errorf("%s(%d, -1): error %d", name, a, e)
			}
		}
		if n, e := f(math.MinInt, -1); n != 0 || e != api.ErrOverflow {
			t.Errorf("%s(-2^63, -1) = %d, %d", name, n, e)
		}
	}
}

// P1.3.
func TestMulDiv(t *testing.T) {
	for _, q := range []struct {
		a, b, c, want int
		e             api.Errno
	}{
		{1 << 62, 6, 4, 6917529027641081856, api.OK},
		{1 << 62, 4, 2, 0, api.ErrOverflow},
		{-5, 3, 2, -8, api.OK}, {5, -3, 2, -8, api.OK}, {5, 3, -2, -8, api.OK}, {-5, -3, -2, -8, api.OK},
		{5, 3, 2, 7, api.OK}, {-5, -3, 2, 7, api.OK}, {-5, 3, -2, 7, api.OK},
		{-6, 3, 2, -9, api.OK},
		{0, math.MinInt, -1, 0, api.OK},
		{1, 1, 0, 0, api.ErrDivide},
		{math.MaxInt, math.MaxInt, 0, 0, api.ErrDivide}, // ErrDivide comes first
		{math.MinInt, 1, -1, 0, api.ErrOverflow},
		{math.MinInt, 1, 1, math.MinInt, api.OK},
		{math.MinInt, -1, 1, 0, api.ErrOverflow},
		{1 << 62, 4, -2, math.MinInt, api.OK},
		{math.MaxInt, math.MaxInt, math.MaxInt, math.MaxInt, api.OK},
		{math.MinInt, math.MinInt, math.MinInt, math.MinInt, api.OK},
		{math.MinInt, math.MinInt, 1, 0, api.ErrOverflow},
		{math.MinInt, math.MinInt, math.MaxInt, 0, api.ErrOverflow},
		{1 << 62, 5, -3, -7686143364045646507, api.OK},
		// The quotients 2^63 - 1/2 and -2^63 + 1/2 are rounded down into the range, and -2^63 - 1/2 out of it.
		{(1<<64 - 1) / 17, 17, 2, math.MaxInt, api.OK},
		{(1<<64 - 1) / 17, 17, -2, math.MinInt, api.OK},
		{(1<<64 + 1) / 274177, 274177, -2, 0, api.ErrOverflow},
	} {
		if got, e := MulDiv(q.a, q.b, q.c); got != q.want || e != q.e {
			t.Errorf("MulDiv(%d, %d, %d) = %d, %d; want %d, %d", q.a, q.b, q.c, got, e, q.want, q.e)
		}
	}
}

// P1.3.
func TestMulDivIsExact(t *testing.T) {
	for _, a := range edges {
		for _, b := range edges {
			product := new(big.Int).Mul(whole(a), whole(b))
			for _, c := range edges {
				want, wantE := 0, api.ErrDivide
				if c != 0 {
					want, wantE = fit(floorBig(product, whole(c)))
				}
				if got, e := MulDiv(a, b, c); got != want || e != wantE {
					t.Errorf("MulDiv(%d, %d, %d) = %d, %d; want %d, %d", a, b, c, got, e, want, wantE)
				}
			}
		}
	}
}

// P1.4.
func TestIsqrt(t *testing.T) {
	if n, e := Isqrt(24); n != 4 || e != api.OK {
		t.Errorf("Isqrt(24) = %d, %d", n, e)
	}
	for n, root := 0, 0; n < 20000; n++ {
		if (root+1)*(root+1) <= n {
			root++
		}
		if got, e := Isqrt(n); got != root || e != api.OK {
			t.Errorf("Isqrt(%d) = %d, %d; want %d", n, got, e, root)
		}
	}
	for bit := range 30 {
		checkRoot(t, 1<<bit+1)
		checkRoot(t, 1<<(bit+1))
		checkRoot(t, 3<<bit-1)
	}
	const greatest = 3037000499 // the root of 2^63 - 1
	checkRoot(t, greatest-1)
	checkRoot(t, greatest)
	if n, e := Isqrt(math.MaxInt); n != greatest || e != api.OK {
		t.Errorf("Isqrt(2^63 - 1) = %d, %d", n, e)
	}
}

// checkRoot checks the root of the square of root, where the result changes, and on both sides of it.
func checkRoot(t *testing.T, root int) {
	t.Helper()
	square := root * root
	for _, q := range [][2]int{{square - 1, root - 1}, {square, root}, {square + 1, root}} {
		if got, e := Isqrt(q[0]); got != q[1] || e != api.OK {
			t.Errorf("Isqrt(%d) = %d, %d; want %d", q[0], got, e, q[1])
		}
	}
}

// P1.4: the error.
func TestIsqrtOfNegative(t *testing.T) {
	for _, n := range []int{-1, -4, math.MinInt} {
		if got, e := Isqrt(n); got != 0 || e != api.ErrArg {
			t.Errorf("Isqrt(%d) = %d, %d", n, got, e)
		}
	}
}

// P1.5.
func TestClamp(t *testing.T) {
	for _, q := range []struct{ n, lo, hi, want int }{
		{7, 0, 5, 5}, {-7, 0, 5, 0}, {3, 0, 5, 3}, {0, 0, 5, 0}, {5, 0, 5, 5}, {9, 4, 4, 4},
		{3, 5, 1, 5}, {0, 5, 1, 5}, {9, 5, 1, 5}, // lo is above hi
		{math.MinInt, math.MinInt, math.MaxInt, math.MinInt},
		{math.MaxInt, math.MinInt, math.MaxInt, math.MaxInt},
		{0, math.MaxInt, math.MinInt, math.MaxInt},
	} {
		if got := Clamp(q.n, q.lo, q.hi); got != q.want {
			t.Errorf("Clamp(%d, %d, %d) = %d; want %d", q.n, q.lo, q.hi, got, q.want)
		}
	}
}

// P1.6.
func TestFormat(t *testing.T) {
	for n, want := range map[int]string{
		0: "0", 7: "7", -120: "-120", 1000: "1000",
		math.MaxInt: "9223372036854775807", math.MinInt: "-9223372036854775808",
	} {
		if got := Format(n); got != want {
			t.Errorf("Format(%d) = %q; want %q", n, got, want)
		}
	}
}

// P1.6.
func TestParseInvertsFormat(t *testing.T) {
	check := func(n int) {
		if got, e := Parse(Format(n)); got != n || e != api.OK {
			t.Errorf("Parse(%q) = %d, %d", Format(n), got, e)
		}
	}
	for _, n := range edges {
		check(n)
	}
	for n := -1100; n <= 1100; n++ {
		check(n)
	}
	for power := 1; power < math.MaxInt/10; power *= 10 {
		check(10*power - 1)
		check(10 * power)
		check(-10 * power)
	}
}

// P1.6.
func TestParse(t *testing.T) {
	for s, want := range map[string]int{
		"0": 0, "-12": -12, "10": 10, "-1": -1, "100": 100,
		"9223372036854775807": math.MaxInt, "-9223372036854775808": math.MinInt,
	} {
		if got, e := Parse(s); got != want || e != api.OK {
			t.Errorf("Parse(%q) = %d, %d; want %d", s, got, e, want)
		}
	}
}

// P1.6: the errors, and that ErrSyntax comes first.
func TestParseErrors(t *testing.T) {
	nines := strings.Repeat("9", 1000)
	for _, s := range []string{
		"", "-", "--", "--1", "-0", "+0", "+1", "+", "007", "00", "01", "-01", "-00", "-007", "0-", "1-", "1-1",
		" ", " 1", "1 ", "1\n", "\t1", "1.0", "1e3", "1_000", "1,000", "0x10", "0b1", "a", "1a", "a1", "/", ":", "1/", "1:",
		"\x00", "1\x00", "\xb1", "\u0661", "1\u0662", "\uff11", "\u22121",
		nines + "x", "-" + nines + "-", "0" + nines, "-0" + nines, "+" + nines, nines + " ", "9223372036854775808 ",
	} {
		if n, e := Parse(s); n != 0 || e != api.ErrSyntax {
			t.Errorf("Parse(%q) = %d, %d; want ErrSyntax", s, n, e)
		}
	}
	for _, s := range []string{
		"9223372036854775808", "-9223372036854775809", "9223372036854775810", "-9223372036854775810",
		"10000000000000000000", "-10000000000000000000", "18446744073709551615", "18446744073709551616",
		"18446744073709551617", "-18446744073709551617", "92233720368547758070", "-92233720368547758080",
		"340282366920938463463374607431768211456", nines, "-" + nines, "1" + strings.Repeat("0", 64),
	} {
		if n, e := Parse(s); n != 0 || e != api.ErrOverflow {
			t.Errorf("Parse(%q) = %d, %d; want ErrOverflow", s, n, e)
		}
	}
}

// The consequences of the chapter.
func TestConsequences(t *testing.T) {
	for _, a := range edges {
		for _, b := range edges {
			if b == 0 {
				continue
			}
			if n, e := MulDiv(a, b, b); n != a || e != api.OK {
				t.Errorf("MulDiv(%d, %d, %d) = %d, %d", a, b, b, n, e)
			}
			floor, e := Floor(a, b)
			round, _ := Round(a, b)
			if e == api.OK && round != floor && round != floor+1 {
				t.Errorf("Floor(%d, %d) = %d, but Round is %d", a, b, floor, round)
			}
		}
	}
}

func FuzzParse(f *testing.F) {
	for _, s := range []string{"0", "-0", "-12", "007", "9223372036854775808", "-9223372036854775808", "1x", ""} {
		f.Add(s)
	}
	f.Fuzz(func(t *testing.T, s string) {
		n, e := Parse(s)
		exact, ok := new(big.Int).SetString(s, 10)
		want, wantE := 0, api.ErrSyntax
		if ok && exact.String() == s {
			want, wantE = fit(exact)
		}
		if n != want || e != wantE {
			t.Errorf("Parse(%s) = %d, %d; want %d, %d", strconv.Quote(s), n, e, want, wantE)
		}
	})
}
