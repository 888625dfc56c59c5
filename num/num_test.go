package num_test

import (
	"math"
	"math/big"
	"slices"
	"strconv"
	"strings"
	"testing"

	"isochron/num"
)

// A row is a call and what it must return.
type row struct {
	args []int
	want int
	ok   bool
}

// Edges are ordinary numbers, the bounds of the range, and numbers beyond them whose sums, products or absolute values wrap around.
func edges() []int {
	l := []int{0, 1, 2, 3, 5, 7, 12, 1000, 1 << 20, 1<<25 + 1, 1 << 26, 1<<32 + 1, 3 << 40,
		1 << 49, 1<<49 + 1, num.Max - 1, num.Max, num.Max + 1, 1 << 52, 1 << 62, math.MaxInt}
	for _, n := range l {
		if n != 0 {
			l = append(l, -n)
		}
	}
	return append(l, math.MinInt)
}

func inside(l ...int) bool {
	return !slices.ContainsFunc(l, func(n int) bool { return n > num.Max || n < -num.Max })
}

// Bounded is the promised result for an exact one.
func bounded(exact *big.Int) (int, bool) {
	if exact.CmpAbs(big.NewInt(num.Max)) > 0 {
		return 0, false
	}
	return int(exact.Int64()), true
}

// Floor rounds n / d down; d is positive, so that the Euclidean quotient is it.
func floor(n *big.Int, d int) *big.Int {
	return new(big.Int).Div(n, exact(d))
}

func exact(n int) *big.Int { return big.NewInt(int64(n)) }

func sum(a, b *big.Int) *big.Int { return new(big.Int).Add(a, b) }

func difference(a, b *big.Int) *big.Int { return new(big.Int).Sub(a, b) }

func product(a, b *big.Int) *big.Int { return new(big.Int).Mul(a, b) }

func text(l []int) string {
	s := []string{}
	for _, n := range l {
		s = append(s, strconv.Itoa(n))
	}
	return "(" + strings.Join(s, ", ") + ")"
}

func checkResult(t *testing.T, name string, args []int, got int, ok bool, want int, wantOk bool) {
	t.Helper()
	if got != want || ok != wantOk {
		t.Errorf("%s%s = %d, %t; want %d, %t", name, text(args), got, ok, want, wantOk)
	}
}

func checkRows(t *testing.T, name string, f func(a, b int) (int, bool), rows []row) {
	t.Helper()
	for _, r := range rows {
		got, ok := f(r.args[0], r.args[1])
		checkResult(t, name, r.args, got, ok, r.want, r.ok)
	}
}

// CheckEdges holds f against the exact result for all pairs of edges. Where valid is false there is none.
func checkEdges(t *testing.T, name string, f func(a, b int) (int, bool), valid func(a, b int) bool, result func(a, b int) *big.Int) {
	t.Helper()
	for _, a := range edges() {
		for _, b := range edges() {
			want, wantOk := 0, false
			if inside(a, b) && valid(a, b) {
				want, wantOk = bounded(result(a, b))
			}
			got, ok := f(a, b)
			checkResult(t, name, []int{a, b}, got, ok, want, wantOk)
		}
	}
}

func always(a, b int) bool { return true }

func positiveDivisor(a, b int) bool { return b >= 1 }

// P1.1: the sum.
func TestAdd(t *testing.T) {
	checkRows(t, "Add", num.Add, []row{
		{[]int{2, 3}, 5, true},
		{[]int{-2, 3}, 1, true},
		{[]int{0, 0}, 0, true},
		{[]int{num.Max, 0}, num.Max, true},
		{[]int{num.Max - 1, 1}, num.Max, true},
		{[]int{-num.Max + 1, -1}, -num.Max, true},
		{[]int{num.Max, -num.Max}, 0, true},
		{[]int{num.Max, 1}, 0, false},
		{[]int{-num.Max, -1}, 0, false},
		{[]int{num.Max, num.Max}, 0, false},
		{[]int{num.Max + 1, -5}, 0, false},
		{[]int{-5, num.Max + 1}, 0, false},
		{[]int{-num.Max - 1, 5}, 0, false},
		{[]int{5, -num.Max - 1}, 0, false},
		{[]int{math.MinInt, math.MinInt}, 0, false},
		{[]int{math.MaxInt, math.MinInt}, 0, false},
	})
	checkEdges(t, "Add", num.Add, always, func(a, b int) *big.Int { return sum(exact(a), exact(b)) })
}

// P1.1: the difference.
func TestSub(t *testing.T) {
	checkRows(t, "Sub", num.Sub, []row{
		{[]int{2, 3}, -1, true},
		{[]int{3, -2}, 5, true},
		{[]int{0, num.Max}, -num.Max, true},
		{[]int{0, -num.Max}, num.Max, true},
		{[]int{num.Max, num.Max}, 0, true},
		{[]int{num.Max, -1}, 0, false},
		{[]int{-num.Max, 1}, 0, false},
		{[]int{num.Max + 1, 5}, 0, false},
		{[]int{5, num.Max + 1}, 0, false},
		{[]int{-num.Max - 1, -5}, 0, false},
		{[]int{-5, -num.Max - 1}, 0, false},
		{[]int{math.MinInt, math.MinInt}, 0, false},
	})
	checkEdges(t, "Sub", num.Sub, always, func(a, b int) *big.Int { return difference(exact(a), exact(b)) })
}

// P1.1: the product.
func TestMul(t *testing.T) {
	checkRows(t, "Mul", num.Mul, []row{
		{[]int{-4, 5}, -20, true},
		{[]int{-4, -5}, 20, true},
		{[]int{0, num.Max}, 0, true},
		{[]int{-1, num.Max}, -num.Max, true},
		{[]int{-num.Max, -1}, num.Max, true},
		{[]int{1 << 26, 1 << 24}, num.Max, true},
		{[]int{1 << 26, -1 << 24}, -num.Max, true},
		{[]int{1 << 26, 1 << 25}, 0, false},
		{[]int{1<<25 + 1, 1 << 25}, 0, false},
		{[]int{-1<<25 - 1, 1 << 25}, 0, false},
		{[]int{1 << 32, 1 << 32}, 0, false},
		{[]int{1 << 31, 1 << 32}, 0, false},
		{[]int{1<<32 + 1, 1<<32 + 1}, 0, false},
		{[]int{num.Max, num.Max}, 0, false},
		{[]int{num.Max + 1, 0}, 0, false},
		{[]int{0, -num.Max - 1}, 0, false},
		{[]int{0, math.MinInt}, 0, false},
	})
	checkEdges(t, "Mul", num.Mul, always, func(a, b int) *big.Int { return product(exact(a), exact(b)) })
}

// P1.2: the quotient rounded down.
func TestFloorDiv(t *testing.T) {
	checkRows(t, "FloorDiv", num.FloorDiv, []row{
		{[]int{7, 2}, 3, true},
		{[]int{-7, 2}, -4, true},
		{[]int{6, 2}, 3, true},
		{[]int{-6, 2}, -3, true},
		{[]int{0, 5}, 0, true},
		{[]int{-1, num.Max}, -1, true},
		{[]int{num.Max, 1}, num.Max, true},
		{[]int{-num.Max, 1}, -num.Max, true},
		{[]int{num.Max, num.Max}, 1, true},
		{[]int{7, 0}, 0, false},
		{[]int{7, -2}, 0, false},
		{[]int{7, num.Max + 1}, 0, false},
		{[]int{num.Max + 1, 2}, 0, false},
		{[]int{-num.Max - 1, 2}, 0, false},
		{[]int{math.MinInt, -1}, 0, false},
	})
	checkEdges(t, "FloorDiv", num.FloorDiv, positiveDivisor, func(a, b int) *big.Int { return floor(exact(a), b) })
}

// P1.2: the quotient rounded up.
func TestCeilDiv(t *testing.T) {
	checkRows(t, "CeilDiv", num.CeilDiv, []row{
		{[]int{7, 2}, 4, true},
		{[]int{-7, 2}, -3, true},
		{[]int{6, 2}, 3, true},
		{[]int{-6, 2}, -3, true},
		{[]int{0, 5}, 0, true},
		{[]int{1, num.Max}, 1, true},
		{[]int{-1, num.Max}, 0, true},
		{[]int{num.Max, 1}, num.Max, true},
		{[]int{-num.Max, 1}, -num.Max, true},
		{[]int{7, 0}, 0, false},
		{[]int{7, -2}, 0, false},
		{[]int{7, num.Max + 1}, 0, false},
		{[]int{num.Max + 1, 2}, 0, false},
		{[]int{math.MinInt, 2}, 0, false},
		{[]int{math.MinInt, -1}, 0, false},
	})
	checkEdges(t, "CeilDiv", num.CeilDiv, positiveDivisor, func(a, b int) *big.Int {
		return new(big.Int).Neg(floor(exact(-a), b))
	})
}

// P1.2: the rest.
func TestMod(t *testing.T) {
	checkRows(t, "Mod", num.Mod, []row{
		{[]int{7, 2}, 1, true},
		{[]int{-7, 2}, 1, true},
		{[]int{-7, 3}, 2, true},
		{[]int{-6, 2}, 0, true},
		{[]int{-1, num.Max}, num.Max - 1, true},
		{[]int{num.Max, num.Max}, 0, true},
		{[]int{-num.Max, num.Max}, 0, true},
		{[]int{3, num.Max}, 3, true},
		{[]int{5, 1}, 0, true},
		{[]int{7, 0}, 0, false},
		{[]int{7, -2}, 0, false},
		{[]int{7, num.Max + 1}, 0, false},
		{[]int{num.Max + 1, 2}, 0, false},
		{[]int{-num.Max - 1, 2}, 0, false},
		{[]int{math.MinInt, -1}, 0, false},
	})
	checkEdges(t, "Mod", num.Mod, positiveDivisor, func(a, b int) *big.Int {
		return new(big.Int).Mod(exact(a), exact(b))
	})
}

// P1.3: the examples, the bounds, and products that are not in range.
func TestMulDiv(t *testing.T) {
	const justOver = (2*num.Max + 1) / 3 // three times this, halved, is Max and a half
	rows := []row{
		{[]int{7, 3, 2}, 10, true},
		{[]int{-7, 3, 2}, -11, true},
		{[]int{7, -3, 2}, -11, true},
		{[]int{-7, -3, 2}, 10, true},
		{[]int{-6, 3, 2}, -9, true},
		{[]int{0, -5, 3}, 0, true},
		{[]int{-1, 1, num.Max}, -1, true},
		{[]int{num.Max, 3, 4}, 3 << 48, true},
		{[]int{num.Max, num.Max, num.Max}, num.Max, true},
		{[]int{-num.Max, num.Max, num.Max}, -num.Max, true},
		{[]int{num.Max, num.Max - 1, num.Max}, num.Max - 1, true},
		{[]int{justOver, 3, 2}, num.Max, true},
		{[]int{-justOver, -3, 2}, num.Max, true},
		{[]int{-justOver, 3, 2}, 0, false},
		{[]int{justOver, -3, 2}, 0, false},
		{[]int{num.Max, 2, 1}, 0, false},
		{[]int{num.Max, num.Max, 1}, 0, false},
		{[]int{num.Max, num.Max, 1 << 35}, 0, false},
		{[]int{num.Max, num.Max, 1 << 36}, 0, false},
		{[]int{num.Max, num.Max, 1 << 37}, 0, false},
		{[]int{num.Max, num.Max - 1, 1 << 36}, 0, false},
		{[]int{1, 1, 0}, 0, false},
		{[]int{0, 0, 0}, 0, false},
		{[]int{4, 2, -2}, 0, false},
		{[]int{num.Max + 1, 1, 2}, 0, false},
		{[]int{1, num.Max + 1, 2}, 0, false},
		{[]int{1, 1, num.Max + 1}, 0, false},
		{[]int{0, -num.Max - 1, 1}, 0, false},
		{[]int{math.MinInt, 0, 1}, 0, false},
		{[]int{1, 1, math.MinInt}, 0, false},
	}
	for _, r := range rows {
		got, ok := num.MulDiv(r.args[0], r.args[1], r.args[2])
		checkResult(t, "MulDiv", r.args, got, ok, r.want, r.ok)
	}
}

// P1.3: all edges, against exact arithmetic.
func TestMulDivEdges(t *testing.T) {
	for _, a := range edges() {
		for _, b := range edges() {
			for _, c := range edges() {
				want, wantOk := 0, false
				if inside(a, b, c) && c >= 1 {
					want, wantOk = bounded(floor(product(exact(a), exact(b)), c))
				}
				got, ok := num.MulDiv(a, b, c)
				checkResult(t, "MulDiv", []int{a, b, c}, got, ok, want, wantOk)
			}
		}
	}
}

// P1.4: the greatest common divisor.
func TestGcd(t *testing.T) {
	rows := []row{
		{args: []int{12, -18}, want: 6},
		{args: []int{-12, -18}, want: 6},
		{args: []int{48, 36}, want: 12},
		{args: []int{17, 5}, want: 1},
		{args: []int{9, 9}, want: 9},
		{args: []int{0, 0}, want: 0},
		{args: []int{0, -7}, want: 7},
		{args: []int{-8, 0}, want: 8},
		{args: []int{num.Max, 0}, want: num.Max},
		{args: []int{-num.Max, num.Max}, want: num.Max},
		{args: []int{num.Max, num.Max - 1}, want: 1},
		{args: []int{num.Max, 3 << 40}, want: 1 << 40},
		{args: []int{num.Max + 1, 5}, want: 0},
		{args: []int{5, num.Max + 1}, want: 0},
		{args: []int{-num.Max - 1, 5}, want: 0},
		{args: []int{num.Max + 1, 0}, want: 0},
		{args: []int{0, math.MinInt}, want: 0},
		{args: []int{math.MinInt, math.MinInt}, want: 0},
	}
	for _, r := range rows {
		if got := num.Gcd(r.args[0], r.args[1]); got != r.want {
			t.Errorf("Gcd%s = %d; want %d", text(r.args), got, r.want)
		}
	}
}

// P1.4: all edges and all small numbers, against exact arithmetic.
func TestGcdEdges(t *testing.T) {
	l := edges()
	for n := range 65 {
		l = append(l, n, -n)
	}
	for _, a := range l {
		for _, b := range l {
			want := 0
			if inside(a, b) {
				want = int(new(big.Int).GCD(nil, nil, exact(a), exact(b)).Int64())
			}
			if got := num.Gcd(a, b); got != want {
				t.Errorf("Gcd(%d, %d) = %d; want %d", a, b, got, want)
			}
		}
	}
}

// P1.4: the least common multiple.
func TestLcm(t *testing.T) {
	upTo36 := []int{}
	for n := range 36 {
		upTo36 = append(upTo36, n+1)
	}
	rows := []row{
		{[]int{4, 6, 10}, 60, true},
		{[]int{20, 30, 16}, 240, true},
		{[]int{7}, 7, true},
		{[]int{1, 1}, 1, true},
		{[]int{5, 5, 5}, 5, true},
		{nil, 1, true},
		{[]int{}, 1, true},
		{upTo36, 144403552893600, true},
		{append(slices.Clone(upTo36), 37), 0, false},
		{[]int{num.Max}, num.Max, true},
		{[]int{num.Max, 1 << 49}, num.Max, true},
		{[]int{1 << 49, num.Max}, num.Max, true},
		{[]int{num.Max, 3}, 0, false},
		{[]int{3, 1 << 49}, 0, false},
		{[]int{1<<40 - 1, 1 << 40}, 0, false},
		{[]int{3, 0}, 0, false},
		{[]int{0, 3}, 0, false},
		{[]int{0}, 0, false},
		{[]int{4, -6}, 0, false},
		{[]int{-6, 4}, 0, false},
		{[]int{num.Max, 3, 0}, 0, false},
		{[]int{num.Max + 1}, 0, false},
		{[]int{2, num.Max + 1}, 0, false},
		{[]int{-num.Max - 1, 2}, 0, false},
		{[]int{1, math.MaxInt}, 0, false},
		{[]int{math.MinInt}, 0, false},
		{[]int{2, math.MinInt, 2}, 0, false},
	}
	for _, r := range rows {
		got, ok := num.Lcm(r.args)
		checkResult(t, "Lcm", r.args, got, ok, r.want, r.ok)
	}
}

// P1.4: all pairs of edges, against exact arithmetic.
func TestLcmEdges(t *testing.T) {
	for _, a := range edges() {
		for _, b := range edges() {
			want, wantOk := 0, false
			if inside(a, b) && a >= 1 && b >= 1 {
				divisor := new(big.Int).GCD(nil, nil, exact(a), exact(b))
				want, wantOk = bounded(product(new(big.Int).Div(exact(a), divisor), exact(b)))
			}
			got, ok := num.Lcm([]int{a, b})
			checkResult(t, "Lcm", []int{a, b}, got, ok, want, wantOk)
		}
	}
}

// P1.4: of every small list, the least number that all of them divide.
func TestLcmIsLeast(t *testing.T) {
	for n := range 12 * 12 * 12 {
		l := []int{n%12 + 1, n/12%12 + 1, n/144 + 1}
		want := 1
		for want%l[0] != 0 || want%l[1] != 0 || want%l[2] != 0 {
			want++
		}
		got, ok := num.Lcm(l)
		checkResult(t, "Lcm", l, got, ok, want, true)
	}
}

// P1.5: quotient and rest make up the dividend.
func TestQuotientAndRest(t *testing.T) {
	for _, a := range edges() {
		for _, b := range edges() {
			if !inside(a, b) || b < 1 {
				continue
			}
			quotient, ok := num.FloorDiv(a, b)
			rest, restOk := num.Mod(a, b)
			if !ok || !restOk || a != b*quotient+rest {
				t.Errorf("%d is not %d * %d + %d", a, b, quotient, rest)
			}
			if rest < 0 || rest >= b {
				t.Errorf("Mod(%d, %d) = %d", a, b, rest)
			}
			same, ok := num.MulDiv(a, b, b)
			checkResult(t, "MulDiv", []int{a, b, b}, same, ok, a, true)
		}
	}
}

// P1.5: the divisor and the multiple of two positive numbers multiply to their product.
func TestDivisorAndMultiple(t *testing.T) {
	tried := 0
	for _, a := range edges() {
		for _, b := range edges() {
			if !inside(a, b) || a < 1 || b < 1 {
				continue
			}
			multiple, ok := num.Lcm([]int{a, b})
			if !ok {
				continue
			}
			tried++
			if product(exact(num.Gcd(a, b)), exact(multiple)).Cmp(product(exact(a), exact(b))) != 0 {
				t.Errorf("Gcd(%d, %d) = %d and Lcm = %d", a, b, num.Gcd(a, b), multiple)
			}
		}
	}
	if tried < 100 {
		t.Errorf("only %d pairs have a multiple in range", tried)
	}
}

// R3: neither the list nor the capacity behind it is written to.
func TestLcmLeavesItsList(t *testing.T) {
	whole := []int{4, 6, 10, 99, 98}
	for n := range 4 {
		num.Lcm(whole[:n])
	}
	if !slices.Equal(whole, []int{4, 6, 10, 99, 98}) {
		t.Error(whole)
	}
}

// R5: a result depends on the arguments alone, whatever was asked before.
func TestResultsRepeat(t *testing.T) {
	for range 3 {
		got, ok := num.Lcm([]int{4, 6})
		checkResult(t, "Lcm", []int{4, 6}, got, ok, 12, true)
		got, ok = num.Lcm([]int{num.Max, 3})
		checkResult(t, "Lcm", []int{num.Max, 3}, got, ok, 0, false)
		got, ok = num.Lcm(nil)
		checkResult(t, "Lcm", nil, got, ok, 1, true)
	}
}
