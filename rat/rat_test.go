package rat_test

import (
	"math"
	"math/big"
	"testing"

	"isochron/api"
	"isochron/num"
	"isochron/rat"
)

// An operation is one of those that return a fraction of two.
type operation func(a, b api.Rat) (api.Rat, api.Errno)

// A row is a call with two fractions and what it must return.
type row struct {
	a, b, want api.Rat
	err        api.Errno
}

func frac(n, d int) api.Rat { return api.Rat{N: n, D: d} }

func exact(x api.Rat) *big.Rat { return big.NewRat(int64(x.N), int64(x.D)) }

// Fraction is the promised result for an exact one.
func fraction(x *big.Rat) (api.Rat, api.Errno) {
	limit := big.NewInt(rat.Limit)
	if x.Num().CmpAbs(limit) > 0 || x.Denom().Cmp(limit) > 0 {
		return api.Rat{}, api.ErrBig
	}
	return frac(int(x.Num().Int64()), int(x.Denom().Int64())), api.OK
}

// Valid fractions: small ones, and those whose parts are at the bound.
func valid() []api.Rat {
	l := []api.Rat{frac(0, 1)}
	for _, n := range []int{1, 2, 3, 4, 7, 12, 1 << 15, 1<<15 + 1, 1 << 20, 1<<29 + 1, rat.Limit - 1, rat.Limit} {
		for _, d := range []int{1, 2, 3, 5, 12, 1 << 15, 1<<16 - 1, 1 << 20, rat.Limit - 1, rat.Limit} {
			if new(big.Int).GCD(nil, nil, big.NewInt(int64(n)), big.NewInt(int64(d))).Int64() == 1 {
				l = append(l, frac(n, d), frac(-n, d))
			}
		}
	}
	return l
}

// Small fractions are few enough to try all triples of them.
func small() []api.Rat {
	return []api.Rat{frac(0, 1), frac(1, 1), frac(-1, 1), frac(1, 2), frac(-1, 2), frac(2, 3), frac(-3, 2), frac(5, 6), frac(7, 1),
		frac(1, 1<<15), frac(1<<15, 3), frac(-1<<20, 1), frac(rat.Limit, 1), frac(-rat.Limit, 1), frac(1, rat.Limit), frac(-1, rat.Limit),
		frac(rat.Limit-1, rat.Limit), frac(rat.Limit, rat.Limit-1)}
}

// Invalid fractions. The products of some of them wrap around into the range.
func invalid() []api.Rat {
	return []api.Rat{
		frac(0, 0), frac(1, 0), frac(-1, 0), frac(rat.Limit, 0), // no denominator
		frac(1, -1), frac(0, -1), frac(-1, -2), frac(1, -rat.Limit), // a negative one
		frac(2, 4), frac(-2, 4), frac(2, 2), frac(6, 3), frac(0, 2), frac(0, rat.Limit), frac(rat.Limit, rat.Limit), frac(rat.Limit, 2), // not in lowest terms
		frac(rat.Limit+1, 1), frac(-rat.Limit-1, 1), frac(1, rat.Limit+1), frac(rat.Limit+1, rat.Limit), frac(rat.Limit, rat.Limit+1),
		frac(num.Max+1, 1), frac(1, num.Max+1), frac(1<<62, 1), frac(1, 1<<62), frac(1<<62, 3<<61),
		frac(math.MaxInt, 1), frac(math.MinInt, 1), frac(1, math.MaxInt), frac(1, math.MinInt), frac(math.MinInt, math.MinInt),
	}
}

func checkFraction(t *testing.T, name string, a, b, got api.Rat, e api.Errno, want api.Rat, wantErr api.Errno) {
	t.Helper()
	if got != want || e != wantErr {
		t.Errorf("%s(%v, %v) = %v, %d; want %v, %d", name, a, b, got, e, want, wantErr)
	}
}

func checkRows(t *testing.T, name string, f operation, rows []row) {
	t.Helper()
	for _, r := range rows {
		got, e := f(r.a, r.b)
		checkFraction(t, name, r.a, r.b, got, e, r.want, r.err)
	}
}

// CheckExact holds f against the exact result for all pairs of valid fractions.
func checkExact(t *testing.T, name string, f operation, result func(a, b *big.Rat) *big.Rat) {
	t.Helper()
	for _, a := range valid() {
		for _, b := range valid() {
			want, wantErr := fraction(result(exact(a), exact(b)))
			got, e := f(a, b)
			checkFraction(t, name, a, b, got, e, want, wantErr)
		}
	}
}

// CheckInvalid tries f with every invalid fraction on either side, and on both.
func checkInvalid(t *testing.T, name string, f operation) {
	t.Helper()
	for _, x := range invalid() {
		for _, y := range small() {
			got, e := f(x, y)
			checkFraction(t, name, x, y, got, e, api.Rat{}, api.ErrRat)
			got, e = f(y, x)
			checkFraction(t, name, y, x, got, e, api.Rat{}, api.ErrRat)
		}
		for _, y := range invalid() {
			got, e := f(x, y)
			checkFraction(t, name, x, y, got, e, api.Rat{}, api.ErrRat)
		}
	}
}

// The common error and its code are given.
func TestErrors(t *testing.T) {
	if api.ErrRat != 120 || rat.Limit != 1<<30 {
		t.Error(api.ErrRat, rat.Limit)
	}
}

// P2.1: what is valid and what is not.
func TestCheck(t *testing.T) {
	for _, x := range valid() {
		if e := rat.Check(x); e != api.OK {
			t.Errorf("Check(%v) = %d; want OK", x, e)
		}
	}
	for _, x := range invalid() {
		if e := rat.Check(x); e != api.ErrRat {
			t.Errorf("Check(%v) = %d; want ErrRat", x, e)
		}
	}
}

// P2.1: of all small pairs, exactly those in lowest terms with a positive denominator are valid.
func TestCheckSmall(t *testing.T) {
	for n := -40; n <= 40; n++ {
		for d := -3; d <= 40; d++ {
			want := api.ErrRat
			if d >= 1 && new(big.Int).GCD(nil, nil, big.NewInt(int64(max(n, -n))), big.NewInt(int64(d))).Int64() == 1 {
				want = api.OK
			}
			if e := rat.Check(frac(n, d)); e != want {
				t.Errorf("Check(%d/%d) = %d; want %d", n, d, e, want)
			}
		}
	}
}

// P2.1: the examples, the bounds, and the order of the errors.
func TestMake(t *testing.T) {
	const bound = 1 << 62
	rows := []struct {
		n, d int
		want api.Rat
		err  api.Errno
	}{
		{6, -4, frac(-3, 2), api.OK},
		{-6, 4, frac(-3, 2), api.OK},
		{-6, -4, frac(3, 2), api.OK},
		{6, 4, frac(3, 2), api.OK},
		{5, 7, frac(5, 7), api.OK},
		{0, -7, frac(0, 1), api.OK},
		{0, bound, frac(0, 1), api.OK},
		{0, -bound, frac(0, 1), api.OK},
		{1 << 31, 2, frac(rat.Limit, 1), api.OK},
		{-1 << 31, 2, frac(-rat.Limit, 1), api.OK},
		{2, 1 << 31, frac(1, rat.Limit), api.OK},
		{2, -1 << 31, frac(-1, rat.Limit), api.OK},
		{bound, bound, frac(1, 1), api.OK},
		{-bound, -bound, frac(1, 1), api.OK},
		{bound, -bound, frac(-1, 1), api.OK},
		{bound, 3 << 60, frac(4, 3), api.OK},
		{3 << 60, bound, frac(3, 4), api.OK},
		{bound, 1 << 32, frac(rat.Limit, 1), api.OK},
		{1 << 32, bound, frac(1, rat.Limit), api.OK},
		{(num.Max + 1) * 3, (num.Max + 1) * 5, frac(3, 5), api.OK},
		{rat.Limit + 1, 1, api.Rat{}, api.ErrBig},
		{-rat.Limit - 1, 1, api.Rat{}, api.ErrBig},
		{1, rat.Limit + 1, api.Rat{}, api.ErrBig},
		{1, -rat.Limit - 1, api.Rat{}, api.ErrBig},
		{bound, 1 << 31, api.Rat{}, api.ErrBig},
		{1 << 31, bound, api.Rat{}, api.ErrBig},
		{bound, bound - 1, api.Rat{}, api.ErrBig},
		{bound + 1, 1, api.Rat{}, api.ErrBig},
		{bound + 1, bound + 1, api.Rat{}, api.ErrBig},
		{-bound - 1, bound + 1, api.Rat{}, api.ErrBig},
		{0, bound + 1, api.Rat{}, api.ErrBig},
		{0, -bound - 1, api.Rat{}, api.ErrBig},
		{2 * (bound - 1), 2, api.Rat{}, api.ErrBig},
		{math.MaxInt, math.MaxInt, api.Rat{}, api.ErrBig},
		{math.MinInt, math.MinInt, api.Rat{}, api.ErrBig},
		{math.MinInt, 1, api.Rat{}, api.ErrBig},
		{1, math.MinInt, api.Rat{}, api.ErrBig},
		{0, math.MinInt, api.Rat{}, api.ErrBig},
		{1, 0, api.Rat{}, api.ErrArg},
		{0, 0, api.Rat{}, api.ErrArg},
		{bound + 1, 0, api.Rat{}, api.ErrArg},
		{math.MinInt, 0, api.Rat{}, api.ErrArg},
	}
	for _, r := range rows {
		got, e := rat.Make(r.n, r.d)
		if got != r.want || e != r.err {
			t.Errorf("Make(%d, %d) = %v, %d; want %v, %d", r.n, r.d, got, e, r.want, r.err)
		}
	}
}

// P2.1: all pairs of numbers up to and beyond the bounds, against exact arithmetic.
func TestMakeEdges(t *testing.T) {
	const bound = 1 << 62
	l := []int{0, 1, 2, 3, 6, 35, 1 << 15, 3 << 20, rat.Limit - 1, rat.Limit, rat.Limit + 1, 1 << 31, 1<<32 + 1, 3 << 31,
		num.Max - 1, num.Max, num.Max + 1, 3 << 50, 3 << 60, 1 << 61, 1<<61 + 1<<60, bound - 2, bound - 1, bound, bound + 1, bound + 2, math.MaxInt}
	a, b := 1, 1
	for b <= bound { // neighbours in this series need the most steps of Euclid's algorithm
		a, b = b, a+b
		l = append(l, a)
	}
	for _, n := range l {
		l = append(l, -n)
	}
	l = append(l, math.MinInt)
	for _, n := range l {
		for _, d := range l {
			want, wantErr := api.Rat{}, api.ErrBig
			if d == 0 {
				wantErr = api.ErrArg
			} else if -bound <= n && n <= bound && -bound <= d && d <= bound {
				want, wantErr = fraction(big.NewRat(int64(n), int64(d)))
			}
			got, e := rat.Make(n, d)
			if got != want || e != wantErr {
				t.Errorf("Make(%d, %d) = %v, %d; want %v, %d", n, d, got, e, want, wantErr)
			}
		}
	}
}

// P2.2: the sum.
func TestAdd(t *testing.T) {
	checkRows(t, "Add", rat.Add, []row{
		{frac(1, 2), frac(1, 3), frac(5, 6), api.OK},
		{frac(1, 2), frac(1, 2), frac(1, 1), api.OK},
		{frac(1, 2), frac(-1, 2), frac(0, 1), api.OK},
		{frac(1, 6), frac(1, 3), frac(1, 2), api.OK},
		{frac(-1, rat.Limit), frac(-1, rat.Limit), frac(-1, rat.Limit/2), api.OK},
		{frac(rat.Limit-1, 1), frac(1, 1), frac(rat.Limit, 1), api.OK},
		{frac(rat.Limit-1, rat.Limit), frac(1, rat.Limit), frac(1, 1), api.OK},
		{frac(rat.Limit, 1), frac(1, 1), api.Rat{}, api.ErrBig},
		{frac(-rat.Limit, 1), frac(-1, 1), api.Rat{}, api.ErrBig},
		{frac(rat.Limit, 1), frac(rat.Limit, 1), api.Rat{}, api.ErrBig},
		{frac(1, rat.Limit), frac(1, 3), api.Rat{}, api.ErrBig},
		{frac(rat.Limit, rat.Limit-1), frac(rat.Limit-1, rat.Limit), api.Rat{}, api.ErrBig},
	})
	checkExact(t, "Add", rat.Add, new(big.Rat).Add)
	checkInvalid(t, "Add", rat.Add)
}

// P2.2: the difference.
func TestSub(t *testing.T) {
	checkRows(t, "Sub", rat.Sub, []row{
		{frac(1, 2), frac(1, 2), frac(0, 1), api.OK},
		{frac(1, 3), frac(1, 2), frac(-1, 6), api.OK},
		{frac(1, 2), frac(1, 3), frac(1, 6), api.OK},
		{frac(1, 2), frac(-1, 2), frac(1, 1), api.OK},
		{frac(0, 1), frac(rat.Limit, 1), frac(-rat.Limit, 1), api.OK},
		{frac(rat.Limit, 1), frac(rat.Limit, 1), frac(0, 1), api.OK},
		{frac(rat.Limit, 1), frac(-1, 1), api.Rat{}, api.ErrBig},
		{frac(-rat.Limit, 1), frac(1, 1), api.Rat{}, api.ErrBig},
		{frac(1, rat.Limit), frac(1, rat.Limit-1), api.Rat{}, api.ErrBig},
	})
	checkExact(t, "Sub", rat.Sub, new(big.Rat).Sub)
	checkInvalid(t, "Sub", rat.Sub)
}

// P2.2: the product.
func TestMul(t *testing.T) {
	checkRows(t, "Mul", rat.Mul, []row{
		{frac(2, 3), frac(3, 4), frac(1, 2), api.OK},
		{frac(-2, 3), frac(3, 4), frac(-1, 2), api.OK},
		{frac(-2, 3), frac(-3, 4), frac(1, 2), api.OK},
		{frac(0, 1), frac(-5, 7), frac(0, 1), api.OK},
		{frac(rat.Limit, 1), frac(1, rat.Limit), frac(1, 1), api.OK},
		{frac(rat.Limit, rat.Limit-1), frac(rat.Limit-1, rat.Limit), frac(1, 1), api.OK},
		{frac(1<<15, 1), frac(-1<<15, 1), frac(-rat.Limit, 1), api.OK},
		{frac(1, 1<<15), frac(1, 1<<15), frac(1, rat.Limit), api.OK},
		{frac(1<<20, 1), frac(1<<20, 1), api.Rat{}, api.ErrBig},
		{frac(1, 1<<20), frac(1, 1<<20), api.Rat{}, api.ErrBig},
		{frac(rat.Limit, 1), frac(-rat.Limit, 1), api.Rat{}, api.ErrBig},
		{frac(1, rat.Limit), frac(1, rat.Limit), api.Rat{}, api.ErrBig},
	})
	checkExact(t, "Mul", rat.Mul, new(big.Rat).Mul)
	checkInvalid(t, "Mul", rat.Mul)
}

// P2.2: the quotient.
func TestDiv(t *testing.T) {
	checkRows(t, "Div", rat.Div, []row{
		{frac(1, 2), frac(-3, 4), frac(-2, 3), api.OK},
		{frac(-1, 2), frac(-3, 4), frac(2, 3), api.OK},
		{frac(1, 3), frac(1, 2), frac(2, 3), api.OK},
		{frac(0, 1), frac(-1, 2), frac(0, 1), api.OK},
		{frac(1, 1), frac(rat.Limit, 1), frac(1, rat.Limit), api.OK},
		{frac(1, 1), frac(-1, rat.Limit), frac(-rat.Limit, 1), api.OK},
		{frac(rat.Limit, 1), frac(rat.Limit, 1), frac(1, 1), api.OK},
		{frac(1, rat.Limit), frac(1, rat.Limit), frac(1, 1), api.OK},
		{frac(1, 2), frac(0, 1), api.Rat{}, api.ErrArg},
		{frac(0, 1), frac(0, 1), api.Rat{}, api.ErrArg},
		{frac(rat.Limit, 1), frac(0, 1), api.Rat{}, api.ErrArg},
		{frac(2, 4), frac(0, 1), api.Rat{}, api.ErrRat},
		{frac(1, 2), frac(0, 2), api.Rat{}, api.ErrRat},
		{frac(rat.Limit, 1), frac(1, rat.Limit), api.Rat{}, api.ErrBig},
		{frac(1, rat.Limit), frac(-rat.Limit, 1), api.Rat{}, api.ErrBig},
	})
	for _, a := range valid() {
		for _, b := range valid() {
			want, wantErr := api.Rat{}, api.ErrArg
			if b.N != 0 {
				want, wantErr = fraction(new(big.Rat).Quo(exact(a), exact(b)))
			}
			got, e := rat.Div(a, b)
			checkFraction(t, "Div", a, b, got, e, want, wantErr)
		}
	}
	checkInvalid(t, "Div", rat.Div)
}

func checkOrder(t *testing.T, a, b api.Rat, want int, wantErr api.Errno) {
	t.Helper()
	if got, e := rat.Cmp(a, b); got != want || e != wantErr {
		t.Errorf("Cmp(%v, %v) = %d, %d; want %d, %d", a, b, got, e, want, wantErr)
	}
}

// P2.3: the order, and the lesser and the greater fraction.
func TestOrder(t *testing.T) {
	checkOrder(t, frac(1, 3), frac(2, 5), -1, api.OK)
	checkOrder(t, frac(2, 5), frac(1, 3), 1, api.OK)
	checkOrder(t, frac(-1, 3), frac(-2, 5), 1, api.OK)
	checkOrder(t, frac(-rat.Limit, 1), frac(rat.Limit, 1), -1, api.OK)
	checkOrder(t, frac(rat.Limit-2, rat.Limit-1), frac(rat.Limit-1, rat.Limit), -1, api.OK)
	checkRows(t, "Min", rat.Min, []row{{frac(1, 3), frac(2, 5), frac(1, 3), api.OK}, {frac(2, 5), frac(1, 3), frac(1, 3), api.OK}})
	checkRows(t, "Max", rat.Max, []row{{frac(1, 3), frac(2, 5), frac(2, 5), api.OK}, {frac(2, 5), frac(1, 3), frac(2, 5), api.OK}})
	for _, a := range valid() {
		for _, b := range valid() {
			want := exact(a).Cmp(exact(b))
			checkOrder(t, a, b, want, api.OK)
			lesser, greater := a, b
			if want > 0 {
				lesser, greater = b, a
			}
			got, e := rat.Min(a, b)
			checkFraction(t, "Min", a, b, got, e, lesser, api.OK)
			got, e = rat.Max(a, b)
			checkFraction(t, "Max", a, b, got, e, greater, api.OK)
		}
	}
}

// P2.3: invalid fractions have no order, not even to themselves.
func TestOrderInvalid(t *testing.T) {
	checkInvalid(t, "Min", rat.Min)
	checkInvalid(t, "Max", rat.Max)
	for _, x := range invalid() {
		for _, y := range small() {
			checkOrder(t, x, y, 0, api.ErrRat)
			checkOrder(t, y, x, 0, api.ErrRat)
		}
		for _, y := range invalid() {
			checkOrder(t, x, y, 0, api.ErrRat)
		}
	}
}

func checkWhole(t *testing.T, x api.Rat, floor, ceil int, wantErr api.Errno) {
	t.Helper()
	if got, e := rat.Floor(x); got != floor || e != wantErr {
		t.Errorf("Floor(%v) = %d, %d; want %d, %d", x, got, e, floor, wantErr)
	}
	if got, e := rat.Ceil(x); got != ceil || e != wantErr {
		t.Errorf("Ceil(%v) = %d, %d; want %d, %d", x, got, e, ceil, wantErr)
	}
}

// P2.3: rounding down and up.
func TestFloorAndCeil(t *testing.T) {
	checkWhole(t, frac(-3, 2), -2, -1, api.OK)
	checkWhole(t, frac(3, 2), 1, 2, api.OK)
	checkWhole(t, frac(-7, 3), -3, -2, api.OK)
	checkWhole(t, frac(0, 1), 0, 0, api.OK)
	checkWhole(t, frac(-5, 1), -5, -5, api.OK)
	checkWhole(t, frac(1, rat.Limit), 0, 1, api.OK)
	checkWhole(t, frac(-1, rat.Limit), -1, 0, api.OK)
	checkWhole(t, frac(rat.Limit, 1), rat.Limit, rat.Limit, api.OK)
	checkWhole(t, frac(-rat.Limit, 1), -rat.Limit, -rat.Limit, api.OK)
	for _, x := range valid() {
		floor := int(new(big.Int).Div(big.NewInt(int64(x.N)), big.NewInt(int64(x.D))).Int64())
		ceil := floor
		if x.D > 1 {
			ceil++
		}
		checkWhole(t, x, floor, ceil, api.OK)
	}
	for _, x := range invalid() {
		checkWhole(t, x, 0, 0, api.ErrRat)
	}
}

// P2.4: results are valid.
func TestResultsAreValid(t *testing.T) {
	for _, f := range []operation{rat.Add, rat.Sub, rat.Mul, rat.Div, rat.Min, rat.Max} {
		for _, a := range valid() {
			for _, b := range valid() {
				if x, e := f(a, b); e == api.OK && rat.Check(x) != api.OK {
					t.Errorf("of %v and %v: %v", a, b, x)
				}
			}
		}
	}
}

// P2.4: sums and products do not depend on the order of the operands.
func TestCommutative(t *testing.T) {
	for _, f := range []operation{rat.Add, rat.Mul} {
		for _, a := range valid() {
			for _, b := range valid() {
				x, e := f(a, b)
				y, g := f(b, a)
				checkFraction(t, "swapped", a, b, x, e, y, g)
			}
		}
	}
}

// A chain makes calls one after the other, and notes whether one of them has returned an error.
type chain struct{ failed bool }

func (c *chain) call(f operation, a, b api.Rat) api.Rat {
	x, e := f(a, b)
	c.failed = c.failed || e != api.OK
	return x
}

// SameUnlessFailed compares two ways to one number, and counts those that lead there without an error.
func sameUnlessFailed(t *testing.T, way func(c *chain) (x, y api.Rat)) int {
	t.Helper()
	c := chain{}
	x, y := way(&c)
	if c.failed {
		return 0
	}
	if x != y {
		t.Errorf("%v is not %v", x, y)
	}
	return 1
}

// P2.4: sums and products are associative, and distributive.
func TestAssociativeAndDistributive(t *testing.T) {
	sums, products, both := 0, 0, 0
	for _, a := range small() {
		for _, b := range small() {
			for _, z := range small() {
				sums += sameUnlessFailed(t, func(c *chain) (x, y api.Rat) {
					return c.call(rat.Add, c.call(rat.Add, a, b), z), c.call(rat.Add, a, c.call(rat.Add, b, z))
				})
				products += sameUnlessFailed(t, func(c *chain) (x, y api.Rat) {
					return c.call(rat.Mul, c.call(rat.Mul, a, b), z), c.call(rat.Mul, a, c.call(rat.Mul, b, z))
				})
				both += sameUnlessFailed(t, func(c *chain) (x, y api.Rat) {
					return c.call(rat.Mul, a, c.call(rat.Add, b, z)), c.call(rat.Add, c.call(rat.Mul, a, b), c.call(rat.Mul, a, z))
				})
			}
		}
	}
	if sums < 500 || products < 500 || both < 500 {
		t.Errorf("only %d, %d and %d triples are without an error", sums, products, both)
	}
}

// P2.4: differences undo sums, and quotients undo products.
func TestUndo(t *testing.T) {
	sums, products := 0, 0
	for _, a := range valid() {
		for _, b := range valid() {
			sums += sameUnlessFailed(t, func(c *chain) (x, y api.Rat) {
				return c.call(rat.Sub, c.call(rat.Add, a, b), b), a
			})
			products += sameUnlessFailed(t, func(c *chain) (x, y api.Rat) {
				return c.call(rat.Div, c.call(rat.Mul, a, b), b), a
			})
		}
	}
	if sums < 1000 || products < 1000 {
		t.Errorf("only %d and %d pairs are without an error", sums, products)
	}
}

func compare(t *testing.T, a, b api.Rat) int {
	t.Helper()
	sign, e := rat.Cmp(a, b)
	if e != api.OK {
		t.Fatalf("Cmp(%v, %v): %d", a, b, e)
	}
	return sign
}

// P2.4: the order is total, and agrees with the sign of the difference.
func TestTotalOrder(t *testing.T) {
	for _, a := range small() {
		for _, b := range small() {
			ab := compare(t, a, b)
			if ab != -compare(t, b, a) || (ab == 0) != (a == b) {
				t.Errorf("%v and %v: %d", a, b, ab)
			}
			for _, z := range small() {
				if ab <= 0 && compare(t, b, z) <= 0 && compare(t, a, z) > 0 {
					t.Errorf("%v, %v, %v", a, b, z)
				}
			}
		}
	}
	for _, a := range valid() {
		for _, b := range valid() {
			difference, e := rat.Sub(a, b)
			if e == api.OK && compare(t, a, b) != compare(t, difference, frac(0, 1)) {
				t.Errorf("%v - %v is %v", a, b, difference)
			}
		}
	}
}
