package bucket_test

import (
	"math"
	"math/big"
	"math/rand"
	"slices"
	"sort"
	"testing"

	"isochron/api"
	"isochron/bucket"
)

type trace = []api.Arrival

func pail(burst, rate int) api.Bucket { return api.Bucket{Burst: burst, Rate: rate} }

// Arrivals makes a trace of pairs of a time and a size.
func arrivals(l ...int) trace {
	out := trace{}
	for i := 0; i < len(l); i += 2 {
		out = append(out, api.Arrival{At: l[i], Size: l[i+1]})
	}
	return out
}

// Same is a trace of n equal arrivals.
func same(n, at, size int) trace {
	return slices.Repeat(arrivals(at, size), n)
}

// Exceeds tells by the definition, with exact numbers, whether the arrivals i to j of l are too many for b.
func exceeds(b api.Bucket, l trace, i, j int) bool {
	sum := new(big.Int)
	for _, a := range l[i : j+1] {
		sum.Add(sum, big.NewInt(int64(a.Size)))
	}
	sum.Sub(sum, big.NewInt(int64(b.Burst)))
	sum.Mul(sum, big.NewInt(api.Unit))
	gain := big.NewInt(int64(l[j].At))
	gain.Sub(gain, big.NewInt(int64(l[i].At)))
	gain.Mul(gain, big.NewInt(int64(b.Rate)))
	return sum.Cmp(gain) > 0
}

// Breach is First by the definition.
func breach(b api.Bucket, l trace) int {
	for j := range l {
		for i := range j + 1 {
			if exceeds(b, l, i, j) {
				return j
			}
		}
	}
	return -1
}

// Need is Least by the definition; it may be greater than MaxBurst.
func need(rate int, l trace) int {
	least := 1
	for j := range l {
		sum := 0
		for i := j; i >= 0; i-- {
			sum += l[i].Size
			gain := new(big.Int).Mul(big.NewInt(int64(rate)), big.NewInt(int64(l[j].At-l[i].At)))
			gain.Rsh(gain, 20)
			least = max(least, int(new(big.Int).Sub(big.NewInt(int64(sum)), gain).Int64()))
		}
	}
	return least
}

func validBuckets() []api.Bucket {
	l := []api.Bucket{}
	for _, burst := range []int{1, 2, 3, 5, 24, 1000, 1 << 16, api.MaxBurst - 1, api.MaxBurst} {
		for _, rate := range []int{1, 2, 3, 16384, api.Unit/3 + 1, api.Unit / 2, api.Unit - 1, api.Unit, api.Unit + 1, api.MaxRate - 1, api.MaxRate} {
			l = append(l, pail(burst, rate))
		}
	}
	return l
}

func invalidBuckets() []api.Bucket {
	l := []api.Bucket{}
	for _, burst := range []int{0, -1, api.MaxBurst + 1, 1 << 32, 1<<63 - 1<<20, -1 << 62, math.MaxInt, math.MinInt} {
		for _, rate := range []int{1, api.Unit, api.MaxRate, 0} {
			l = append(l, pail(burst, rate))
		}
	}
	for _, rate := range []int{0, -1, api.MaxRate + 1, 1 << 32, math.MaxInt, math.MinInt} {
		for _, burst := range []int{1, 1000, api.MaxBurst, math.MinInt} {
			l = append(l, pail(burst, rate))
		}
	}
	return l
}

func validTraces() []trace {
	return []trace{
		nil,
		{},
		arrivals(0, 1),
		arrivals(api.MaxTime, api.MaxBurst),
		arrivals(0, api.MaxBurst),
		arrivals(0, 600, 0, 400),
		arrivals(0, 1, 1, 1, 1, 1, 7, 2),
		arrivals(0, api.MaxBurst, api.MaxTime, api.MaxBurst),
		arrivals(0, api.MaxBurst, api.MaxTime/2, api.MaxBurst, api.MaxTime, 1),
		arrivals(0, 1, api.MaxTime-1, 1, api.MaxTime, 2, api.MaxTime, 1),
		arrivals(0, api.MaxBurst, api.Unit/2-1, api.MaxBurst, api.Unit, api.MaxBurst),
		arrivals(5, 3, 1<<30, 4, 1<<30, api.MaxBurst, 1<<39, 1),
		same(api.MaxTrace, 0, 1),
		same(api.MaxTrace, api.MaxTime, api.MaxBurst),
	}
}

func invalidTraces() []trace {
	l := []trace{
		arrivals(1, 1, 0, 1),
		arrivals(0, 1, 9, 1, 8, 1, 10, 1),
		arrivals(api.MaxTime, 1, 0, 1),
		same(api.MaxTrace+1, 0, 1),
		same(5*api.MaxTrace, api.MaxTime, 1),
	}
	for _, at := range []int{-1, api.MaxTime + 1, 1 << 62, math.MaxInt, math.MinInt} {
		l = append(l, arrivals(at, 1), arrivals(at, 1, api.MaxTime, 1), arrivals(0, 1, at, 1), append(same(api.MaxTrace-1, 0, 1), api.Arrival{At: at, Size: 1}))
	}
	for _, size := range []int{0, -1, api.MaxBurst + 1, 1 << 43, 1 << 44, math.MaxInt, math.MinInt} {
		l = append(l, arrivals(3, size), arrivals(3, size, 4, 1), arrivals(3, 1, 3, size), append(same(api.MaxTrace-1, 0, 1), api.Arrival{At: 0, Size: size}))
	}
	return l
}

// Random traces are the same in each run. They stay close to what the bucket allows, so that both answers are frequent.
func randomTrace(r *rand.Rand, b api.Bucket, longest int) trace {
	l := trace{}
	at := r.Intn(1000)
	for range r.Intn(longest + 1) {
		size := 1 + r.Intn(min(b.Burst, api.MaxBurst))
		l = append(l, api.Arrival{At: at, Size: size})
		pause := size * api.Unit / b.Rate
		switch r.Intn(4) {
		case 0:
			at += pause
		case 1:
			at += r.Intn(2*pause + 1)
		case 2:
			at += pause + r.Intn(3)
		}
		at = min(at, api.MaxTime)
	}
	return l
}

func randomBucket(r *rand.Rand) api.Bucket {
	return pail(1+r.Intn(1<<r.Intn(21)), 1+r.Intn(1<<r.Intn(22)))
}

// AllTraces calls f for every trace of at most longest arrivals with small pauses and sizes.
func allTraces(longest int, f func(l trace)) {
	grow := func(l trace) {}
	grow = func(l trace) {
		f(l)
		if len(l) == longest {
			return
		}
		for pause := range 4 {
			for size := 1; size <= 3; size++ {
				at := pause
				if len(l) > 0 {
					at += l[len(l)-1].At
				}
				grow(append(slices.Clip(l), api.Arrival{At: at, Size: size}))
			}
		}
	}
	grow(nil)
}

func smallBuckets() []api.Bucket {
	l := []api.Bucket{}
	for _, burst := range []int{1, 2, 3, 4, 6} {
		for _, rate := range []int{1, api.Unit / 3, api.Unit/3 + 1, api.Unit / 2, api.Unit - 1, api.Unit, api.Unit * 3 / 2, api.MaxRate} {
			l = append(l, pail(burst, rate))
		}
	}
	return l
}

// CheckFirst holds First and Conforms against what is wanted.
func checkFirst(t *testing.T, b api.Bucket, l trace, want int, wantErr api.Errno) {
	t.Helper()
	if n, e := bucket.First(b, l); n != want || e != wantErr {
		t.Errorf("First(%v, %v) = %d, %d; want %d, %d", b, l, n, e, want, wantErr)
	}
	conforms := wantErr == api.OK && want < 0
	if ok, e := bucket.Conforms(b, l); ok != conforms || e != wantErr {
		t.Errorf("Conforms(%v, %v) = %v, %d; want %v, %d", b, l, ok, e, conforms, wantErr)
	}
}

func checkLeast(t *testing.T, rate int, l trace, want int, wantErr api.Errno) {
	t.Helper()
	if n, e := bucket.Least(rate, l); n != want || e != wantErr {
		t.Errorf("Least(%d, %v) = %d, %d; want %d, %d", rate, l, n, e, want, wantErr)
	}
}

// LeastByDefinition holds Least against the definition.
func leastByDefinition(t *testing.T, rate int, l trace) {
	t.Helper()
	if want := need(rate, l); want <= api.MaxBurst {
		checkLeast(t, rate, l, want, api.OK)
	} else {
		checkLeast(t, rate, l, 0, api.ErrBig)
	}
}

func checkWithin(t *testing.T, b api.Bucket, ticks, want int, wantErr api.Errno) {
	t.Helper()
	if n, e := bucket.Within(b, ticks); n != want || e != wantErr {
		t.Errorf("Within(%v, %d) = %d, %d; want %d, %d", b, ticks, n, e, want, wantErr)
	}
}

func checkSum(t *testing.T, l []api.Bucket, want api.Bucket, wantErr api.Errno) {
	t.Helper()
	if b, e := bucket.Sum(l); b != want || e != wantErr {
		t.Errorf("Sum(%v) = %v, %d; want %v, %d", l, b, e, want, wantErr)
	}
}

// The errors of this layer and its limits are given.
func TestErrors(t *testing.T) {
	if api.ErrBucket != 130 || api.ErrTrace != 131 || api.MaxTrace != 200 {
		t.Error(api.ErrBucket, api.ErrTrace, api.MaxTrace)
	}
}

// P3.1: buckets.
func TestCheck(t *testing.T) {
	for _, b := range validBuckets() {
		if e := bucket.Check(b); e != api.OK {
			t.Errorf("Check(%v) = %d; want OK", b, e)
		}
	}
	for _, b := range invalidBuckets() {
		if e := bucket.Check(b); e != api.ErrBucket {
			t.Errorf("Check(%v) = %d; want ErrBucket", b, e)
		}
	}
}

// P3.1: traces.
func TestCheckTrace(t *testing.T) {
	for _, l := range validTraces() {
		if e := bucket.CheckTrace(l); e != api.OK {
			t.Errorf("CheckTrace(%v) = %d; want OK", l, e)
		}
	}
	for _, l := range invalidTraces() {
		if e := bucket.CheckTrace(l); e != api.ErrTrace {
			t.Errorf("CheckTrace(%v) = %d; want ErrTrace", l, e)
		}
	}
}

// P3.2: the examples.
func TestConforms(t *testing.T) {
	b := pail(1000, 1<<17)
	checkFirst(t, b, arrivals(0, 600, 0, 400), -1, api.OK)
	checkFirst(t, b, arrivals(0, 600, 0, 401), 1, api.OK)
	checkFirst(t, b, arrivals(0, 1000, 800, 100), -1, api.OK)
	checkFirst(t, b, arrivals(0, 1000, 7, 1), 1, api.OK)
	checkFirst(t, b, arrivals(0, 1000, 8, 1, 8, 1), 2, api.OK)
	checkFirst(t, b, nil, -1, api.OK)
	checkFirst(t, b, trace{}, -1, api.OK)
}

// P3.2: a bucket holds no more than its Burst, however long nothing arrives, and is full at first.
func TestBurst(t *testing.T) {
	for _, b := range validBuckets() {
		for _, at := range []int{0, 1, api.Unit, 1 << 30, api.MaxTime} {
			checkFirst(t, b, arrivals(at, b.Burst), -1, api.OK)
			checkFirst(t, b, arrivals(at, b.Burst, at, 1), 1, api.OK)
			if b.Burst < api.MaxBurst {
				checkFirst(t, b, arrivals(at, b.Burst+1), 0, api.OK)
				checkFirst(t, b, arrivals(0, 1, at, b.Burst+1), 1, api.OK)
			}
		}
		filled := (b.Burst*api.Unit + b.Rate - 1) / b.Rate
		checkFirst(t, b, arrivals(0, b.Burst, filled, b.Burst), -1, api.OK)
		checkFirst(t, b, arrivals(0, b.Burst, filled-1, b.Burst, api.MaxTime, b.Burst), 1, api.OK)
		checkFirst(t, b, arrivals(0, b.Burst, api.MaxTime, b.Burst, api.MaxTime, 1), 2, api.OK)
	}
}

// P3.2: parts of an octet are kept from arrival to arrival.
func TestParts(t *testing.T) {
	b := pail(1, api.Unit/3+1) // three ticks bring one octet and two parts of Unit
	checkFirst(t, b, arrivals(0, 1, 3, 1, 6, 1, 9, 1), -1, api.OK)
	checkFirst(t, b, arrivals(0, 1, 2, 1), 1, api.OK)
	b = pail(1, api.Unit/3)
	checkFirst(t, b, arrivals(0, 1, 3, 1), 1, api.OK)
	checkFirst(t, b, arrivals(0, 1, 4, 1, 7, 1, 10, 1, 13, 1), 2, api.OK)
	b = pail(2, api.Unit/3)
	checkFirst(t, b, arrivals(0, 1, 3, 1, 6, 1), -1, api.OK)
	checkFirst(t, b, arrivals(0, 1, 3, 1, 6, 1, 6, 1), 3, api.OK)
}

// P3.2: the longest traces, and the first of several breaches.
func TestLongTraces(t *testing.T) {
	checkFirst(t, pail(api.MaxTrace, 1), same(api.MaxTrace, 0, 1), -1, api.OK)
	checkFirst(t, pail(api.MaxTrace-1, 1), same(api.MaxTrace, 0, 1), api.MaxTrace-1, api.OK)
	checkFirst(t, pail(1, 1), same(api.MaxTrace, 7, 1), 1, api.OK)
	checkFirst(t, pail(api.MaxBurst, api.MaxRate), same(api.MaxTrace, api.MaxTime, api.MaxBurst), 1, api.OK)
	checkFirst(t, pail(1, 1), same(api.MaxTrace, api.MaxTime, api.MaxBurst), 0, api.OK)
	checkFirst(t, pail(5, 1), arrivals(0, 6, api.MaxTime, 1, api.MaxTime, 5), 0, api.OK)
	l := trace{}
	for n := range api.MaxTrace {
		l = append(l, api.Arrival{At: n * api.Unit / 2, Size: api.MaxBurst})
	}
	checkFirst(t, pail(api.MaxBurst, api.MaxRate), l, -1, api.OK)
	checkFirst(t, pail(api.MaxBurst, api.MaxRate-1), l, 1, api.OK)
	l[api.MaxTrace-1].At--
	checkFirst(t, pail(api.MaxBurst, api.MaxRate), l, api.MaxTrace-1, api.OK)
}

// A tally counts the traces that conform and the others, so that a test notices if one kind is rare.
type tally struct{ conforming, others int }

// Compare holds First, Conforms and Least against the definition.
func (c *tally) compare(t *testing.T, b api.Bucket, l trace) {
	t.Helper()
	want := breach(b, l)
	checkFirst(t, b, l, want, api.OK)
	leastByDefinition(t, b.Rate, l)
	if want < 0 {
		c.conforming++
	} else {
		c.others++
	}
}

func (c *tally) wantAtLeast(t *testing.T, n int) {
	t.Helper()
	if c.conforming < n || c.others < n {
		t.Errorf("only %d traces conform, and %d do not", c.conforming, c.others)
	}
}

// P3.2 and P3.5: all small traces against the definition.
func TestSmallTraces(t *testing.T) {
	c := tally{}
	for _, b := range smallBuckets() {
		allTraces(3, func(l trace) { c.compare(t, b, l) })
	}
	c.wantAtLeast(t, 10000)
}

// P3.2 and P3.5: traces at the limits, and random ones, against the definition.
func TestTraces(t *testing.T) {
	c := tally{}
	for _, b := range validBuckets() {
		for _, l := range validTraces() {
			c.compare(t, b, l)
		}
	}
	r := rand.New(rand.NewSource(3))
	for range 3000 {
		b := randomBucket(r)
		c.compare(t, b, randomTrace(r, b, 12))
	}
	c.wantAtLeast(t, 500)
}

// P3.2: the bucket is checked before the trace.
func TestConformsInvalid(t *testing.T) {
	for _, b := range invalidBuckets() {
		for _, l := range append(validTraces(), invalidTraces()...) {
			checkFirst(t, b, l, 0, api.ErrBucket)
		}
	}
	for _, b := range validBuckets() {
		for _, l := range invalidTraces() {
			checkFirst(t, b, l, 0, api.ErrTrace)
		}
	}
}

// P3.3: the examples and the greatest numbers.
func TestWithin(t *testing.T) {
	b := pail(1000, 1<<17)
	checkWithin(t, b, 0, 1000, api.OK)
	checkWithin(t, b, 15, 1001, api.OK)
	checkWithin(t, b, 16, 1002, api.OK)
	checkWithin(t, pail(200, 16384), 1024, 216, api.OK)
	checkWithin(t, pail(1, 1), api.MaxTime, 1<<20+1, api.OK)
	checkWithin(t, pail(api.MaxBurst, api.MaxRate), api.MaxTime, 1<<41+1<<20, api.OK)
	for _, b := range validBuckets() {
		for _, ticks := range []int{0, 1, 2, 7, 1000, api.Unit - 1, api.Unit, api.Unit + 1, 1<<29 - 1, 1 << 29, 1<<31 + 5, api.MaxTime - 1, api.MaxTime} {
			gain := new(big.Int).Mul(big.NewInt(int64(b.Rate)), big.NewInt(int64(ticks)))
			checkWithin(t, b, ticks, b.Burst+int(gain.Rsh(gain, 20).Int64()), api.OK)
		}
	}
}

// P3.3: the bucket is checked before the time.
func TestWithinInvalid(t *testing.T) {
	times := []int{-1, api.MaxTime + 1, 1 << 50, 1<<50 + 1, math.MaxInt, math.MinInt}
	for _, ticks := range times {
		for _, b := range validBuckets() {
			checkWithin(t, b, ticks, 0, api.ErrArg)
		}
	}
	for _, ticks := range append(times, 0, 1, api.MaxTime) {
		for _, b := range invalidBuckets() {
			checkWithin(t, b, ticks, 0, api.ErrBucket)
		}
	}
}

// P3.3: it is the greatest number of octets of a conforming trace.
func TestWithinIsGreatest(t *testing.T) {
	for _, b := range validBuckets() {
		for _, ticks := range []int{0, 1, 15, 1000, api.Unit} {
			n, e := bucket.Within(b, ticks)
			if e != api.OK || n-b.Burst > api.MaxBurst {
				continue // one arrival does not have that many octets
			}
			if n == b.Burst {
				checkFirst(t, b, arrivals(9, b.Burst, 9+ticks, 1), 1, api.OK)
				continue
			}
			// The later octets fit into the bucket only if it has room for them.
			l := arrivals(9, b.Burst, 9+ticks, n-b.Burst)
			if n-b.Burst <= b.Burst {
				checkFirst(t, b, l, -1, api.OK)
			}
			l = append(l, api.Arrival{At: 9 + ticks, Size: 1})
			if ok, _ := bucket.Conforms(b, l); ok {
				t.Errorf("%v conforms to %v; at most %d octets may arrive", l, b, n)
			}
		}
	}
}

// P3.4: the example, one bucket, and as many as are allowed.
func TestSum(t *testing.T) {
	b := pail(1000, 1<<17)
	checkSum(t, []api.Bucket{b, pail(24, 1<<20)}, pail(1024, 9<<17), api.OK)
	for _, b := range validBuckets() {
		checkSum(t, []api.Bucket{b}, b, api.OK)
	}
	checkSum(t, slices.Repeat([]api.Bucket{b}, api.MaxStreams), pail(12000, 12<<17), api.OK)
	checkSum(t, slices.Repeat([]api.Bucket{pail(1, 1)}, api.MaxStreams), pail(12, 12), api.OK)
	checkSum(t, []api.Bucket{pail(api.MaxBurst-1, 1), pail(1, api.MaxRate-1)}, pail(api.MaxBurst, api.MaxRate), api.OK)
	checkSum(t, []api.Bucket{pail(3, 4), pail(5, 6), pail(7, 8)}, pail(15, 18), api.OK)
}

// P3.4: too few, too many, invalid ones, and sums that are not valid, in this order.
func TestSumInvalid(t *testing.T) {
	one := pail(1, 1)
	checkSum(t, nil, api.Bucket{}, api.ErrArg)
	checkSum(t, []api.Bucket{}, api.Bucket{}, api.ErrArg)
	checkSum(t, slices.Repeat([]api.Bucket{one}, api.MaxStreams+1), api.Bucket{}, api.ErrLong)
	checkSum(t, slices.Repeat([]api.Bucket{pail(0, 0)}, api.MaxStreams+1), api.Bucket{}, api.ErrLong)
	checkSum(t, slices.Repeat([]api.Bucket{pail(api.MaxBurst, 1)}, 100), api.Bucket{}, api.ErrLong)
	checkSum(t, []api.Bucket{pail(api.MaxBurst, 1), one}, api.Bucket{}, api.ErrBig)
	checkSum(t, []api.Bucket{one, pail(1, api.MaxRate)}, api.Bucket{}, api.ErrBig)
	checkSum(t, slices.Repeat([]api.Bucket{pail(api.MaxBurst, api.MaxRate)}, api.MaxStreams), api.Bucket{}, api.ErrBig)
	for _, b := range invalidBuckets() {
		checkSum(t, []api.Bucket{b}, api.Bucket{}, api.ErrBucket)
		checkSum(t, []api.Bucket{b, one}, api.Bucket{}, api.ErrBucket)
		checkSum(t, []api.Bucket{one, b}, api.Bucket{}, api.ErrBucket)
		checkSum(t, []api.Bucket{pail(api.MaxBurst, 1), one, b}, api.Bucket{}, api.ErrBucket)
		checkSum(t, slices.Repeat([]api.Bucket{b}, api.MaxStreams), api.Bucket{}, api.ErrBucket)
		checkSum(t, []api.Bucket{pail(3, 3), b, pail(b.Burst, -b.Rate)}, api.Bucket{}, api.ErrBucket)
	}
	checkSum(t, []api.Bucket{pail(10, 10), pail(-5, 5)}, api.Bucket{}, api.ErrBucket) // although the sum would be valid
}

// P3.5: the examples, and bursts at the limits.
func TestLeast(t *testing.T) {
	checkLeast(t, 1<<17, arrivals(0, 100, 80, 100, 80, 100), 290, api.OK)
	checkLeast(t, 1<<17, nil, 1, api.OK)
	checkLeast(t, 1<<17, trace{}, 1, api.OK)
	checkLeast(t, 1<<18, arrivals(0, 150, 100, 75, 100, 1), 201, api.OK)
	checkLeast(t, api.Unit, arrivals(0, 1, 1, 1, 2, 1), 1, api.OK)
	checkLeast(t, api.Unit-1, arrivals(0, 1, 1, 1), 2, api.OK)
	checkLeast(t, 1, arrivals(0, api.MaxBurst), api.MaxBurst, api.OK)
	checkLeast(t, 1, arrivals(0, api.MaxBurst-1, 0, 1), api.MaxBurst, api.OK)
	checkLeast(t, 1, arrivals(0, api.MaxBurst, api.Unit, 1), api.MaxBurst, api.OK)
	checkLeast(t, 1, arrivals(0, api.MaxBurst, api.Unit-1, 1), 0, api.ErrBig)
	checkLeast(t, api.MaxRate, arrivals(0, api.MaxBurst, 0, 1), 0, api.ErrBig)
	checkLeast(t, api.MaxRate, same(api.MaxTrace, api.MaxTime, api.MaxBurst), 0, api.ErrBig)
	checkLeast(t, api.MaxRate, same(api.MaxTrace, api.MaxTime, 1), api.MaxTrace, api.OK)
	checkLeast(t, api.MaxRate, arrivals(0, api.MaxBurst, api.MaxTime, api.MaxBurst), api.MaxBurst, api.OK)
}

// P3.5: the rate is checked before the trace.
func TestLeastInvalid(t *testing.T) {
	for _, rate := range []int{0, -1, api.MaxRate + 1, 1 << 40, math.MaxInt, math.MinInt} {
		for _, l := range append(validTraces(), invalidTraces()...) {
			checkLeast(t, rate, l, 0, api.ErrArg)
		}
	}
	for _, rate := range []int{1, api.Unit, api.MaxRate} {
		for _, l := range invalidTraces() {
			checkLeast(t, rate, l, 0, api.ErrTrace)
		}
	}
}

// P3.5: the trace conforms to the bucket with the least burst, and to none with a lesser one.
func TestLeastIsLeast(t *testing.T) {
	r := rand.New(rand.NewSource(5))
	for range 3000 {
		b := randomBucket(r)
		l := randomTrace(r, b, 40)
		burst, e := bucket.Least(b.Rate, l)
		if e == api.ErrBig {
			if ok, _ := bucket.Conforms(pail(api.MaxBurst, b.Rate), l); ok {
				t.Errorf("%v conforms to the greatest bucket of rate %d", l, b.Rate)
			}
			continue
		}
		if ok, f := bucket.Conforms(pail(burst, b.Rate), l); !ok || e != api.OK || f != api.OK {
			t.Errorf("Least(%d, %v) = %d, %d, to which it does not conform", b.Rate, l, burst, e)
		}
		if ok, _ := bucket.Conforms(pail(burst-1, b.Rate), l); ok {
			t.Errorf("Least(%d, %v) = %d, but it conforms to %d", b.Rate, l, burst, burst-1)
		}
	}
}

// Levels are the token levels of P3.6, added tick by tick.
func levels(b api.Bucket, l trace) []int {
	level, now := b.Burst*api.Unit, 0
	if len(l) > 0 {
		now = l[0].At
	}
	out := []int{}
	for _, a := range l {
		for ; now < a.At; now++ {
			level = min(level+b.Rate, b.Burst*api.Unit)
		}
		level -= a.Size * api.Unit
		out = append(out, level)
	}
	return out
}

// P3.6: the token level decides.
func TestTokenLevel(t *testing.T) {
	for _, b := range smallBuckets() {
		allTraces(3, func(l trace) {
			negative := slices.IndexFunc(levels(b, l), func(level int) bool { return level < 0 })
			checkFirst(t, b, l, negative, api.OK)
		})
	}
}

// P3.6: a part of a conforming trace conforms.
func TestPartsConform(t *testing.T) {
	r := rand.New(rand.NewSource(7))
	parts := 0
	for range 2000 {
		b := randomBucket(r)
		l := randomTrace(r, b, 10)
		if ok, _ := bucket.Conforms(b, l); !ok {
			continue
		}
		for i := range len(l) + 1 {
			for j := i; j <= len(l); j++ {
				checkFirst(t, b, l[i:j], -1, api.OK)
				parts++
			}
		}
		some := slices.DeleteFunc(slices.Clone(l), func(api.Arrival) bool { return r.Intn(2) == 0 })
		checkFirst(t, b, some, -1, api.OK)
	}
	if parts < 1000 {
		t.Errorf("only %d parts", parts)
	}
}

// P3.6: traces that conform to buckets, merged by time, conform to the sum of the buckets.
func TestMergedConform(t *testing.T) {
	r := rand.New(rand.NewSource(9))
	merged := 0
	for range 20000 {
		a, b := randomBucket(r), randomBucket(r)
		sum, e := bucket.Sum([]api.Bucket{a, b})
		k, l := randomTrace(r, a, 6), randomTrace(r, b, 6)
		first, _ := bucket.Conforms(a, k)
		second, _ := bucket.Conforms(b, l)
		if e != api.OK || !first || !second || len(k) == 0 || len(l) == 0 {
			continue
		}
		both := append(slices.Clone(k), l...)
		sort.SliceStable(both, func(i, j int) bool { return both[i].At < both[j].At })
		checkFirst(t, sum, both, -1, api.OK)
		merged++
	}
	if merged < 500 {
		t.Errorf("only %d pairs of traces were merged", merged)
	}
}

// R3 and R5: nothing is written to, and equal calls have equal results.
func TestArgumentsStay(t *testing.T) {
	room := append(make(trace, 0, 8), arrivals(0, 600, 5, 400, 9, 7)...)
	traceBefore := slices.Clone(room[:cap(room)])
	pails := append(make([]api.Bucket, 0, 8), pail(1000, 1<<17), pail(24, 1<<20))
	pailsBefore := slices.Clone(pails[:cap(pails)])
	for range 2 {
		checkFirst(t, pails[0], room, 2, api.OK)
		checkLeast(t, 1<<17, room, 1006, api.OK)
		checkSum(t, pails, pail(1024, 9<<17), api.OK)
		if e := bucket.CheckTrace(room); e != api.OK {
			t.Error(e)
		}
	}
	if !slices.Equal(room[:cap(room)], traceBefore) || !slices.Equal(pails[:cap(pails)], pailsBefore) {
		t.Error("an argument was changed")
	}
}
