package curve_test

import (
	"math"
	"math/big"
	"math/rand"
	"slices"
	"testing"

	"isochron/api"
	"isochron/bucket"
	"isochron/curve"
)

type trace = []api.Arrival

type flow = []api.Bucket

func pail(burst, rate int) api.Bucket { return api.Bucket{Burst: burst, Rate: rate} }

func serve(rate, latency int) api.Serve { return api.Serve{Rate: rate, Latency: latency} }

// Arrivals makes a trace of pairs of a time and a size.
func arrivals(l ...int) trace {
	out := trace{}
	for i := 0; i < len(l); i += 2 {
		out = append(out, api.Arrival{At: l[i], Size: l[i+1]})
	}
	return out
}

// Same is a trace of n equal arrivals.
func same(n, at, size int) trace {
	return slices.Repeat(arrivals(at, size), n)
}

func exact(n int) *big.Rat { return new(big.Rat).SetInt64(int64(n)) }

func add(a, b *big.Rat) *big.Rat { return new(big.Rat).Add(a, b) }

func sub(a, b *big.Rat) *big.Rat { return new(big.Rat).Sub(a, b) }

func mul(a, b *big.Rat) *big.Rat { return new(big.Rat).Mul(a, b) }

func div(a, b *big.Rat) *big.Rat { return new(big.Rat).Quo(a, b) }

func lesser(a, b *big.Rat) *big.Rat {
	if a == nil || b.Cmp(a) < 0 {
		return b
	}
	return a
}

func ceil(x *big.Rat) int {
	rest := new(big.Int)
	n, _ := new(big.Int).DivMod(x.Num(), x.Denom(), rest) // the denominator is positive, so that n is rounded down
	if rest.Sign() > 0 {
		return int(n.Int64()) + 1
	}
	return int(n.Int64())
}

// Clearing is the clearing time by its formula, not rounded; nil if no bucket is slow.
func clearing(l flow, rate int) *big.Rat {
	var least *big.Rat
	unit, r := exact(api.Unit), exact(rate)
	for _, b := range l {
		if b.Rate > rate {
			continue
		}
		least = lesser(least, div(mul(exact(b.Burst), unit), r))
		for _, a := range l {
			if a.Rate <= rate || a.Burst >= b.Burst {
				continue
			}
			above := mul(sub(exact(a.Rate), r), exact(b.Burst))
			below := mul(sub(r, exact(b.Rate)), exact(a.Burst))
			least = lesser(least, div(mul(add(above, below), unit), mul(r, sub(exact(a.Rate), exact(b.Rate)))))
		}
	}
	return least
}

// Distance is how long after the time at the line with the slope rate reaches the least limit at that time.
func distance(l flow, rate int, at *big.Rat) *big.Rat {
	var octets *big.Rat
	for _, b := range l {
		octets = lesser(octets, add(exact(b.Burst), mul(at, big.NewRat(int64(b.Rate), api.Unit))))
	}
	return sub(div(mul(octets, exact(api.Unit)), exact(rate)), at)
}

// Greatest is the greatest distance at any time. The distance is made of straight lines that meet where two limits do, and does not grow in the end if a bucket is slow.
func greatest(l flow, rate int) *big.Rat {
	most := distance(l, rate, exact(0))
	for _, a := range l {
		for _, b := range l {
			if a.Rate <= b.Rate || a.Burst >= b.Burst {
				continue
			}
			at := div(mul(exact(b.Burst-a.Burst), exact(api.Unit)), exact(a.Rate-b.Rate))
			if d := distance(l, rate, at); d.Cmp(most) > 0 {
				most = d
			}
		}
	}
	return most
}

// Latest are the latest departures by their definition.
func latest(l trace, s api.Serve) []int {
	out := []int{}
	for j := range l {
		sum, last := 0, 0
		for i := j; i >= 0; i-- {
			sum += l[i].Size
			sent := ceil(div(mul(exact(sum), exact(api.Unit)), exact(s.Rate)))
			last = max(last, l[i].At+s.Latency+sent)
		}
		out = append(out, last)
	}
	return out
}

// Grown is the burst of b and what its rate brings in some ticks, rounded up.
func grown(b api.Bucket, ticks int) int {
	return b.Burst + ceil(div(mul(exact(b.Rate), exact(ticks)), exact(api.Unit)))
}

func rates() []int {
	return []int{1, 2, 3, 16384, api.Unit/3 + 1, api.Unit / 2, api.Unit - 1, api.Unit, api.Unit + 1, api.MaxRate - 1, api.MaxRate}
}

func validBuckets() flow {
	l := flow{}
	for _, burst := range []int{1, 2, 3, 24, 1000, 1 << 16, api.MaxBurst - 1, api.MaxBurst} {
		for _, rate := range rates() {
			l = append(l, pail(burst, rate))
		}
	}
	return l
}

func invalidBuckets() flow {
	l := flow{}
	for _, n := range []int{0, -1, api.MaxRate + 1, 1 << 32, 1 << 62, math.MaxInt, math.MinInt} {
		l = append(l, pail(n, 1), pail(n, api.MaxRate), pail(1, n), pail(api.MaxBurst, n), pail(n, n))
	}
	return append(l, pail(api.MaxBurst+1, 1))
}

func validServes() []api.Serve {
	l := []api.Serve{}
	for _, rate := range rates() {
		for _, latency := range []int{0, 1, 100, 1000003, api.MaxLatency - 1, api.MaxLatency} {
			l = append(l, serve(rate, latency))
		}
	}
	return l
}

func invalidServes() []api.Serve {
	l := []api.Serve{}
	for _, rate := range []int{0, -1, api.MaxRate + 1, 1 << 32, 1 << 62, math.MaxInt, math.MinInt} {
		l = append(l, serve(rate, 0), serve(rate, 100), serve(rate, api.MaxLatency), serve(rate, -1))
	}
	for _, latency := range []int{-1, api.MaxLatency + 1, 1 << 40, 1 << 62, math.MaxInt, math.MinInt} {
		l = append(l, serve(1, latency), serve(api.Unit, latency), serve(api.MaxRate, latency), serve(0, latency))
	}
	return l
}

func validTraces() []trace {
	return []trace{
		nil,
		{},
		arrivals(0, 1),
		arrivals(api.MaxTime, api.MaxBurst),
		arrivals(0, 100, 10, 50, 2000, 1),
		arrivals(0, 1, 0, 1, 1, 1, 7, 2),
		arrivals(0, api.MaxBurst, api.MaxTime, api.MaxBurst),
		arrivals(0, api.MaxBurst, api.MaxTime/2, api.MaxBurst, api.MaxTime, 1),
		arrivals(5, 3, 1<<30, 4, 1<<30, api.MaxBurst, 1<<39, 1),
		same(api.MaxTrace, 0, 1),
		same(api.MaxTrace, 3, 1000),
		same(api.MaxTrace, api.MaxTime, api.MaxBurst),
	}
}

func invalidTraces() []trace {
	return []trace{
		arrivals(1, 1, 0, 1),
		arrivals(-1, 1),
		arrivals(api.MaxTime+1, 1),
		arrivals(math.MaxInt, 1),
		arrivals(math.MinInt, 1),
		arrivals(0, 0),
		arrivals(0, -1),
		arrivals(0, 1, 0, api.MaxBurst+1),
		arrivals(0, math.MaxInt),
		arrivals(0, math.MinInt),
		same(api.MaxTrace+1, 0, 1),
		same(10*api.MaxTrace, api.MaxTime, 1),
	}
}

// Random values are the same in each run.
func randomBucket(r *rand.Rand) api.Bucket {
	return pail(1+r.Intn(1<<r.Intn(21)), 1+r.Intn(1<<r.Intn(22)))
}

func randomServe(r *rand.Rand) api.Serve {
	return serve(1+r.Intn(1<<r.Intn(22)), r.Intn(1<<r.Intn(29)+1))
}

// RandomFlow has buckets of which many are fast and small, or slow and great, for a service of the rate.
func randomFlow(r *rand.Rand, rate int) flow {
	l := flow{}
	for range 1 + r.Intn(api.MaxStreams) {
		b := randomBucket(r)
		switch r.Intn(3) {
		case 0:
			b.Rate = 1 + r.Intn(rate)
		case 1:
			b.Rate = rate + r.Intn(api.MaxRate-rate+1)
		}
		l = append(l, b)
	}
	return l
}

// ConformingTrace is a random trace that conforms to all buckets of l: each size is at most what they have left, and often all of it.
func conformingTrace(r *rand.Rand, l flow, longest int) trace {
	out := trace{}
	at := r.Intn(1000)
	for range 1 + r.Intn(longest) {
		size := l[0].Burst
		for _, b := range l {
			size = min(size, room(b, out, at))
		}
		if size >= 1 {
			if r.Intn(2) == 0 {
				size = 1 + r.Intn(size)
			}
			out = append(out, api.Arrival{At: at, Size: size})
		}
		b := l[r.Intn(len(l))]
		pause := b.Burst * api.Unit / b.Rate
		at = min(api.MaxTime, at+[]int{0, 1, pause / 3, r.Intn(pause + 1), pause}[r.Intn(5)])
	}
	return out
}

// Room is the greatest size of a frame at the time at, behind l, that the bucket allows, at most its burst.
func room(b api.Bucket, l trace, at int) int {
	most, sum := b.Burst, 0
	for i := len(l) - 1; i >= 0; i-- {
		sum += l[i].Size
		gain, _ := bucket.Within(b, at-l[i].At)
		most = min(most, gain-sum)
	}
	return most
}

func checkDelay(t *testing.T, l flow, s api.Serve, want int, wantErr api.Errno) {
	t.Helper()
	if d, e := curve.Delay(l, s); d != want || e != wantErr {
		t.Errorf("Delay(%v, %v) = %d, %d; want %d, %d", l, s, d, e, want, wantErr)
	}
}

func checkBacklog(t *testing.T, b api.Bucket, s api.Serve, want int, wantErr api.Errno) {
	t.Helper()
	if n, e := curve.Backlog(b, s); n != want || e != wantErr {
		t.Errorf("Backlog(%v, %v) = %d, %d; want %d, %d", b, s, n, e, want, wantErr)
	}
}

func checkOutput(t *testing.T, b api.Bucket, s api.Serve, want api.Bucket, wantErr api.Errno) {
	t.Helper()
	if o, e := curve.Output(b, s); o != want || e != wantErr {
		t.Errorf("Output(%v, %v) = %v, %d; want %v, %d", b, s, o, e, want, wantErr)
	}
}

func checkJoin(t *testing.T, a, b, want api.Serve, wantErr api.Errno) {
	t.Helper()
	if s, e := curve.Join(a, b); s != want || e != wantErr {
		t.Errorf("Join(%v, %v) = %v, %d; want %v, %d", a, b, s, e, want, wantErr)
	}
}

func checkDrain(t *testing.T, l trace, s api.Serve, want []int, wantErr api.Errno) {
	t.Helper()
	if d, e := curve.Drain(l, s); !slices.Equal(d, want) || e != wantErr {
		t.Errorf("Drain(%v, %v) = %v, %d; want %v, %d", l, s, d, e, want, wantErr)
	}
}

// CheckAlone holds the functions of one bucket against the definitions.
func checkAlone(t *testing.T, b api.Bucket, s api.Serve) {
	t.Helper()
	if b.Rate > s.Rate {
		checkDelay(t, flow{b}, s, 0, api.ErrRate)
		checkBacklog(t, b, s, 0, api.ErrRate)
		checkOutput(t, b, s, api.Bucket{}, api.ErrRate)
		return
	}
	delay := s.Latency + ceil(clearing(flow{b}, s.Rate))
	checkDelay(t, flow{b}, s, delay, api.OK)
	checkBacklog(t, b, s, grown(b, s.Latency), api.OK)
	if burst := grown(b, delay); burst <= api.MaxBurst {
		checkOutput(t, b, s, pail(burst, b.Rate), api.OK)
	} else {
		checkOutput(t, b, s, api.Bucket{}, api.ErrBig)
	}
}

// CheckFlow holds Delay against the formula and against what the formula stands for.
func checkFlow(t *testing.T, l flow, s api.Serve) {
	t.Helper()
	exactly := clearing(l, s.Rate)
	if exactly == nil {
		checkDelay(t, l, s, 0, api.ErrRate)
		return
	}
	checkDelay(t, l, s, s.Latency+ceil(exactly), api.OK)
	if far := greatest(l, s.Rate); far.Cmp(exactly) != 0 {
		t.Errorf("%v and the rate %d: the clearing time is %v, the greatest distance %v", l, s.Rate, exactly, far)
	}
}

// The errors of this layer and its limits are given.
func TestErrors(t *testing.T) {
	if api.ErrServe != 140 || api.ErrRate != 141 || api.MaxLatency != 1<<28 {
		t.Error(api.ErrServe, api.ErrRate, api.MaxLatency)
	}
}

// P4.1: services.
func TestCheck(t *testing.T) {
	for _, s := range validServes() {
		if e := curve.Check(s); e != api.OK {
			t.Errorf("Check(%v) = %d; want OK", s, e)
		}
	}
	for _, s := range append(invalidServes(), api.Serve{}) {
		if e := curve.Check(s); e != api.ErrServe {
			t.Errorf("Check(%v) = %d; want ErrServe", s, e)
		}
	}
}

// P4.1: the example, both orders, and the greatest latency.
func TestJoin(t *testing.T) {
	checkJoin(t, serve(1<<17, 100), serve(1<<16, 5), serve(1<<16, 105), api.OK)
	checkJoin(t, serve(1<<16, 5), serve(1<<17, 100), serve(1<<16, 105), api.OK)
	checkJoin(t, serve(1<<16, 100), serve(1<<17, 5), serve(1<<16, 105), api.OK)
	checkJoin(t, serve(1, 0), serve(1, 0), serve(1, 0), api.OK)
	checkJoin(t, serve(api.MaxRate, 7), serve(api.MaxRate, 9), serve(api.MaxRate, 16), api.OK)
	checkJoin(t, serve(5, api.MaxLatency), serve(6, 0), serve(5, api.MaxLatency), api.OK)
	checkJoin(t, serve(5, api.MaxLatency/2), serve(6, api.MaxLatency/2), serve(5, api.MaxLatency), api.OK)
	checkJoin(t, serve(5, api.MaxLatency/2), serve(6, api.MaxLatency/2+1), api.Serve{}, api.ErrBig)
	checkJoin(t, serve(5, api.MaxLatency), serve(6, 1), api.Serve{}, api.ErrBig)
	checkJoin(t, serve(1, 1), serve(api.MaxRate, api.MaxLatency), api.Serve{}, api.ErrBig)
	checkJoin(t, serve(1, api.MaxLatency), serve(1, api.MaxLatency), api.Serve{}, api.ErrBig)
}

// P4.1: an invalid service, on either side, although what is joined might be valid.
func TestJoinInvalid(t *testing.T) {
	for _, bad := range invalidServes() {
		for _, s := range append(validServes(), invalidServes()...) {
			checkJoin(t, bad, s, api.Serve{}, api.ErrServe)
			checkJoin(t, s, bad, api.Serve{}, api.ErrServe)
		}
	}
	checkJoin(t, serve(5, 10), serve(5, -10), api.Serve{}, api.ErrServe)
	checkJoin(t, serve(5, 10), serve(api.MaxRate+1, 10), api.Serve{}, api.ErrServe)
}

// P4.2: the examples, and the bound of a rate.
func TestDelay(t *testing.T) {
	s, b := serve(1<<17, 100), pail(1000, 1<<16)
	checkDelay(t, flow{b}, s, 8100, api.OK)
	checkDelay(t, flow{pail(1001, 1<<17)}, s, 8108, api.OK)
	checkDelay(t, flow{b, pail(100, 1<<18)}, s, 5700, api.OK)
	checkDelay(t, flow{pail(100, 1<<18), b}, s, 5700, api.OK)
	checkDelay(t, flow{pail(1, 1<<18)}, s, 0, api.ErrRate)
	checkDelay(t, flow{pail(1, 1<<17+1)}, s, 0, api.ErrRate)
	checkDelay(t, flow{pail(1, 1<<18), pail(5, 1<<19)}, s, 0, api.ErrRate)
	checkDelay(t, flow{pail(300, 1<<18), pail(100, 1<<20)}, serve(1<<19, 50), 517, api.OK)
	checkDelay(t, flow{pail(216, 16384)}, serve(131072, 1016), 2744, api.OK)
}

// P4.2: several slow buckets, several fast ones, and fast ones that are of no use.
func TestDelayOfSeveral(t *testing.T) {
	s, b := serve(1<<17, 100), pail(1000, 1<<16)
	checkDelay(t, flow{b, pail(900, 1<<17)}, s, 7300, api.OK)
	checkDelay(t, flow{pail(900, 1<<17), b, pail(950, 1)}, s, 7300, api.OK)
	checkDelay(t, flow{b, b, b}, s, 8100, api.OK)
	checkDelay(t, flow{b, pail(1000, 1<<18)}, s, 8100, api.OK)
	checkDelay(t, flow{b, pail(1001, 1<<18)}, s, 8100, api.OK)
	checkDelay(t, flow{b, pail(api.MaxBurst, api.MaxRate)}, s, 8100, api.OK)
	checkDelay(t, flow{b, pail(999, 1<<18)}, s, 8098, api.OK) // the clearing time is 7997 and 1/3
	checkDelay(t, flow{b, pail(100, 1<<18), pail(1, 1<<19)}, s, 5700, api.OK)
	checkDelay(t, flow{b, pail(100, 1<<18), pail(1, 1<<17+1)}, s, 109, api.OK)
	checkDelay(t, flow{b, pail(700, 1<<16), pail(100, 1<<18)}, s, 4100, api.OK)
	checkDelay(t, flow{pail(100, 1<<18), pail(4, 1<<17), b}, s, 132, api.OK)
}

// P4.2: the clearing time is rounded up once, at the end.
func TestDelayRounded(t *testing.T) {
	checkDelay(t, flow{pail(1, 1)}, serve(api.Unit, 0), 1, api.OK)
	checkDelay(t, flow{pail(1, 1)}, serve(api.MaxRate, 0), 1, api.OK)
	checkDelay(t, flow{pail(2, 1)}, serve(api.MaxRate, 0), 1, api.OK)
	checkDelay(t, flow{pail(3, 1)}, serve(api.MaxRate, 0), 2, api.OK)
	checkDelay(t, flow{pail(1, 1)}, serve(api.Unit+1, 0), 1, api.OK)
	checkDelay(t, flow{pail(1, 1)}, serve(api.Unit-1, 0), 2, api.OK)
	checkDelay(t, flow{pail(1, 1)}, serve(3, 7), 7+349526, api.OK)
	checkDelay(t, flow{pail(3, 1)}, serve(3, 7), 7+api.Unit, api.OK)
}

// P4.2: the greatest numbers.
func TestDelayGreatest(t *testing.T) {
	checkDelay(t, flow{pail(api.MaxBurst, 1)}, serve(1, api.MaxLatency), 1<<40+1<<28, api.OK)
	checkDelay(t, flow{pail(api.MaxBurst, api.MaxRate)}, serve(api.MaxRate, api.MaxLatency), 1<<19+1<<28, api.OK)
	for _, rate := range []int{1, 2, 3, api.Unit - 1, api.Unit, api.MaxRate - 2, api.MaxRate - 1} {
		for _, fast := range []int{1, 2, api.MaxBurst / 2, api.MaxBurst - 1, api.MaxBurst} {
			checkFlow(t, flow{pail(api.MaxBurst, 1), pail(fast, api.MaxRate)}, serve(rate, api.MaxLatency))
			checkFlow(t, flow{pail(api.MaxBurst, rate), pail(fast, rate+1)}, serve(rate, api.MaxLatency))
			checkFlow(t, flow{pail(api.MaxBurst, rate), pail(fast, api.MaxRate)}, serve(rate, 0))
		}
	}
}

// P4.2: as many buckets as are allowed, and one more; each of them counts.
func TestDelayMany(t *testing.T) {
	s := serve(1<<17, 100)
	for n := range api.MaxStreams {
		l := slices.Repeat(flow{pail(1000, 1<<16)}, api.MaxStreams)
		checkDelay(t, l, s, 8100, api.OK)
		l[n] = pail(900, 1<<16)
		checkDelay(t, l, s, 7300, api.OK)
		l[n] = pail(100, 1<<18)
		checkDelay(t, l, s, 5700, api.OK)
		l = slices.Repeat(flow{pail(100, 1<<18)}, api.MaxStreams)
		checkDelay(t, l, s, 0, api.ErrRate)
		l[n] = pail(1000, 1<<16)
		checkDelay(t, l, s, 5700, api.OK)
		l[n] = pail(1, 0)
		checkDelay(t, l, s, 0, api.ErrBucket)
	}
}

// P4.2: the errors in their order, each of them although those behind it apply, too.
func TestDelayInvalid(t *testing.T) {
	fast, bad := pail(1, api.MaxRate), pail(0, 0)
	for _, s := range append(invalidServes(), serve(1, 0), serve(1<<17, 100)) {
		checkDelay(t, nil, s, 0, api.ErrArg)
		checkDelay(t, flow{}, s, 0, api.ErrArg)
		checkDelay(t, slices.Repeat(flow{fast}, api.MaxStreams+1), s, 0, api.ErrLong)
		checkDelay(t, slices.Repeat(flow{bad}, api.MaxStreams+1), s, 0, api.ErrLong)
		checkDelay(t, slices.Repeat(flow{pail(5, 1)}, 1000), s, 0, api.ErrLong)
		for _, b := range invalidBuckets() {
			checkDelay(t, flow{b}, s, 0, api.ErrBucket)
			checkDelay(t, flow{b, fast}, s, 0, api.ErrBucket)
			checkDelay(t, flow{fast, b}, s, 0, api.ErrBucket)
			checkDelay(t, flow{pail(5, 1), pail(5, 1), b}, s, 0, api.ErrBucket)
		}
	}
	for _, s := range invalidServes() {
		for _, b := range validBuckets() {
			checkDelay(t, flow{b}, s, 0, api.ErrServe)
			checkDelay(t, flow{fast, b}, s, 0, api.ErrServe)
		}
	}
}

// P4.3: the examples.
func TestBacklogAndOutput(t *testing.T) {
	s, b := serve(1<<17, 100), pail(1000, 1<<16)
	checkBacklog(t, b, s, 1007, api.OK)
	checkOutput(t, b, s, pail(1507, 1<<16), api.OK)
	checkBacklog(t, pail(200, 16384), serve(131072, 1016), 216, api.OK)
	checkBacklog(t, pail(300, 1<<18), serve(1<<19, 50), 313, api.OK)
	checkOutput(t, pail(300, 1<<18), serve(1<<19, 50), pail(463, 1<<18), api.OK)
	checkBacklog(t, b, serve(1<<17, 0), 1000, api.OK)
	checkBacklog(t, pail(1000, 1<<17), serve(1<<17, 8), 1001, api.OK)
	checkBacklog(t, pail(1000, 1<<17), serve(1<<17, 9), 1002, api.OK)
	checkOutput(t, pail(1, 1<<17), serve(1<<17, 0), pail(2, 1<<17), api.OK)
	checkOutput(t, pail(1, 1<<17), serve(1<<17, 1), pail(3, 1<<17), api.OK)
	checkOutput(t, pail(1, 1), serve(api.Unit, 0), pail(2, 1), api.OK)
}

// P4.3: the greatest numbers, and bursts at the limit. A backlog need not be the burst of a valid bucket.
func TestBacklogAndOutputGreatest(t *testing.T) {
	checkBacklog(t, pail(api.MaxBurst, api.MaxRate), serve(api.MaxRate, api.MaxLatency), 1<<20+1<<29, api.OK)
	checkOutput(t, pail(api.MaxBurst, api.MaxRate), serve(api.MaxRate, api.MaxLatency), api.Bucket{}, api.ErrBig)
	checkOutput(t, pail(api.MaxBurst, 1), serve(1, api.MaxLatency), api.Bucket{}, api.ErrBig)
	checkOutput(t, pail(api.MaxBurst, 1), serve(api.MaxRate, 0), api.Bucket{}, api.ErrBig)
	checkOutput(t, pail(api.MaxBurst-1, 1), serve(api.MaxRate, 0), pail(api.MaxBurst, 1), api.OK)
	checkOutput(t, pail(1<<19, 1<<19), serve(1<<19, 0), pail(1<<20, 1<<19), api.OK)
	checkOutput(t, pail(1<<19, 1<<19), serve(1<<19, 1), api.Bucket{}, api.ErrBig)
	checkOutput(t, pail(1<<19+1, 1<<19), serve(1<<19, 0), api.Bucket{}, api.ErrBig)
}

// P4.3: the bucket is checked before the service, and both before the rate.
func TestBacklogAndOutputInvalid(t *testing.T) {
	for _, b := range invalidBuckets() {
		for _, s := range append(invalidServes(), validServes()...) {
			checkBacklog(t, b, s, 0, api.ErrBucket)
			checkOutput(t, b, s, api.Bucket{}, api.ErrBucket)
		}
	}
	for _, b := range validBuckets() {
		for _, s := range invalidServes() {
			checkBacklog(t, b, s, 0, api.ErrServe)
			checkOutput(t, b, s, api.Bucket{}, api.ErrServe)
		}
	}
	for _, rate := range []int{1, 2, 1 << 17, api.MaxRate - 1} {
		// The burst of the output would be too great, too.
		for _, b := range (flow{pail(1, rate+1), pail(api.MaxBurst, rate+1), pail(api.MaxBurst, api.MaxRate)}) {
			checkBacklog(t, b, serve(rate, api.MaxLatency), 0, api.ErrRate)
			checkOutput(t, b, serve(rate, api.MaxLatency), api.Bucket{}, api.ErrRate)
		}
	}
}

// P4.2 and P4.3: one bucket, at the limits and random, against the definitions.
func TestAlone(t *testing.T) {
	for _, b := range validBuckets() {
		for _, s := range validServes() {
			checkAlone(t, b, s)
		}
	}
	r := rand.New(rand.NewSource(4))
	for range 5000 {
		checkAlone(t, randomBucket(r), randomServe(r))
	}
}

// P4.2: pairs of buckets at the limits, and random flows, against the formula and the greatest horizontal distance.
func TestFlows(t *testing.T) {
	l := validBuckets()
	for i := range l {
		for j := range l {
			if (i+3*j)%5 != 0 { // the rest would take long and find no more
				continue
			}
			for _, rate := range rates() {
				checkFlow(t, flow{l[i], l[j]}, serve(rate, i*j))
			}
		}
	}
	r := rand.New(rand.NewSource(42))
	slower, mixed := 0, 0
	for range 3000 {
		s := randomServe(r)
		l := randomFlow(r, s.Rate)
		checkFlow(t, l, s)
		if clearing(l, s.Rate) == nil {
			continue
		}
		slower++
		only := slices.DeleteFunc(slices.Clone(l), func(b api.Bucket) bool { return b.Rate > s.Rate })
		if clearing(l, s.Rate).Cmp(clearing(only, s.Rate)) < 0 {
			mixed++
		}
	}
	if slower < 1000 || mixed < 500 {
		t.Errorf("%d flows have slow buckets; of %d a fast one matters", slower, mixed)
	}
}

// P4.4: the example, and traces without a frame.
func TestDrain(t *testing.T) {
	s := serve(1<<17, 100)
	checkDrain(t, arrivals(0, 100, 10, 50, 2000, 1), s, []int{900, 1300, 2108}, api.OK)
	checkDrain(t, nil, s, nil, api.OK)
	checkDrain(t, trace{}, s, nil, api.OK)
	checkDrain(t, arrivals(7, 1), s, []int{115}, api.OK)
	checkDrain(t, arrivals(7, 1), serve(1<<17, 0), []int{15}, api.OK)
	checkDrain(t, arrivals(5, 10, 6, 10, 500, 1), serve(1<<19, 50), []int{75, 95, 552}, api.OK)
}

// P4.4: a frame that arrives just before, when, or just after the ones before it could have left.
func TestDrainMeets(t *testing.T) {
	s := serve(1<<17, 100)
	checkDrain(t, arrivals(0, 10, 79, 1), s, []int{180, 188}, api.OK)
	checkDrain(t, arrivals(0, 10, 80, 1), s, []int{180, 188}, api.OK)
	checkDrain(t, arrivals(0, 10, 81, 1), s, []int{180, 189}, api.OK)
	checkDrain(t, arrivals(0, 10, 180, 1), s, []int{180, 288}, api.OK)
	checkDrain(t, arrivals(0, 1, 0, 1, 0, 1), s, []int{108, 116, 124}, api.OK)
}

// P4.4: parts of a tick are kept from frame to frame, and dropped when nothing waits.
func TestDrainRounded(t *testing.T) {
	checkDrain(t, same(5, 0, 1), serve(api.MaxRate, 0), []int{1, 1, 2, 2, 3}, api.OK)
	checkDrain(t, same(4, 9, 1), serve(3*api.Unit/4, 0), []int{11, 12, 13, 15}, api.OK)
	checkDrain(t, arrivals(0, 1, 1, 1, 2, 1), serve(api.MaxRate, 0), []int{1, 2, 3}, api.OK)
	checkDrain(t, arrivals(0, 1, 1, 1, 2, 1), serve(3*api.Unit/4, 0), []int{2, 3, 4}, api.OK)
	checkDrain(t, arrivals(0, 1, 2, 1, 3, 1), serve(3*api.Unit/4, 0), []int{2, 4, 5}, api.OK)
}

// P4.4: the greatest numbers.
func TestDrainGreatest(t *testing.T) {
	want := []int{}
	for n := range api.MaxTrace {
		want = append(want, 1<<40+1<<28+(n+1)<<40)
	}
	checkDrain(t, same(api.MaxTrace, api.MaxTime, api.MaxBurst), serve(1, api.MaxLatency), want, api.OK)
	for n := range want {
		want[n] = 1<<40 + 1<<28 + (n+1)<<19
	}
	checkDrain(t, same(api.MaxTrace, api.MaxTime, api.MaxBurst), serve(api.MaxRate, api.MaxLatency), want, api.OK)
}

// P4.4: the trace is checked before the service.
func TestDrainInvalid(t *testing.T) {
	for _, l := range invalidTraces() {
		for _, s := range append(invalidServes(), validServes()...) {
			checkDrain(t, l, s, nil, api.ErrTrace)
		}
	}
	for _, l := range validTraces() {
		for _, s := range invalidServes() {
			checkDrain(t, l, s, nil, api.ErrServe)
		}
	}
}

// P4.4: all small traces against the definition.
func TestDrainSmall(t *testing.T) {
	for _, rate := range []int{api.Unit / 3, api.Unit/2 + 1, api.Unit - 1, api.Unit, 3 * api.Unit / 2, api.MaxRate} {
		s := serve(rate, 5)
		grow := func(l trace, at int) {}
		grow = func(l trace, at int) {
			checkDrain(t, l, s, latest(l, s), api.OK)
			for k := 0; k < 12 && len(l) < 4; k++ {
				grow(append(slices.Clip(l), api.Arrival{At: at + k/3, Size: 1 + k%3}), at+k/3)
			}
		}
		grow(nil, 0)
	}
}

// P4.4: traces at the limits, and random ones, against the definition.
func TestDrainTraces(t *testing.T) {
	short := slices.DeleteFunc(validTraces(), func(l trace) bool { return len(l) > 20 })
	for _, s := range validServes() {
		for _, l := range short {
			checkDrain(t, l, s, latest(l, s), api.OK)
		}
	}
	for _, l := range validTraces() {
		for _, s := range []api.Serve{serve(3, 7), serve(api.Unit/3+1, api.MaxLatency), serve(api.MaxRate-1, 0)} {
			checkDrain(t, l, s, latest(l, s), api.OK)
		}
	}
	r := rand.New(rand.NewSource(44))
	for range 2000 {
		b, s := randomBucket(r), randomServe(r)
		if r.Intn(2) == 0 {
			s.Rate = b.Rate // so that frames wait, or not, by a little
		}
		l := conformingTrace(r, flow{b}, 12)
		checkDrain(t, l, s, latest(l, s), api.OK)
	}
}

// P4.5: no frame of a trace that conforms to all buckets leaves more than Delay after its arrival.
func TestDelayBounds(t *testing.T) {
	r := rand.New(rand.NewSource(45))
	flows, tight := 0, 0
	for range 5000 {
		s := randomServe(r)
		l := randomFlow(r, s.Rate)
		bound, e := curve.Delay(l, s)
		if e != api.OK {
			continue
		}
		arrived := conformingTrace(r, l, 20)
		for _, b := range l {
			if ok, f := bucket.Conforms(b, arrived); !ok || f != api.OK {
				t.Fatalf("%v does not conform to %v: %d", arrived, b, f)
			}
		}
		left, _ := curve.Drain(arrived, s)
		for n, a := range arrived {
			if left[n]-a.At > bound {
				t.Errorf("%v, %v: frame %d of %v leaves at %d; Delay is %d", l, s, n, arrived, left[n], bound)
			}
			if left[n]-a.At == bound {
				tight++
			}
		}
		flows++
	}
	if flows < 1000 || tight < 100 {
		t.Errorf("only %d flows, and %d frames that are as late as the bound", flows, tight)
	}
}

// P4.5: for one bucket Delay is the least bound: a frame of its whole burst is that late.
func TestDelayIsLeast(t *testing.T) {
	for _, b := range validBuckets() {
		for _, s := range validServes() {
			bound, e := curve.Delay(flow{b}, s)
			if e != api.OK {
				continue
			}
			for _, at := range []int{0, 5, api.MaxTime} {
				checkDrain(t, arrivals(at, b.Burst), s, []int{at + bound}, api.OK)
			}
		}
	}
}

// P4.5: frames that leave in order, each at most Delay after its arrival, conform to Output.
func TestOutputConforms(t *testing.T) {
	r := rand.New(rand.NewSource(46))
	traces := 0
	for range 10000 {
		b, s := randomBucket(r), randomServe(r)
		out, e := curve.Output(b, s)
		if e != api.OK {
			continue
		}
		delay, _ := curve.Delay(flow{b}, s)
		arrived := conformingTrace(r, flow{b}, 12)
		whole, late, some, last := slices.Clone(arrived), slices.Clone(arrived), slices.Clone(arrived), 0
		left, _ := curve.Drain(arrived, s)
		for n, a := range arrived {
			whole[n].At = left[n]
			late[n].At = max(last, a.At+delay*r.Intn(2)) // as bunched as they can be
			some[n].At = a.At + r.Intn(delay+1)
			if n > 0 {
				some[n].At = max(some[n].At, some[n-1].At)
			}
			last = late[n].At
		}
		for _, l := range []trace{arrived, whole, late, some} {
			if l[len(l)-1].At > api.MaxTime {
				continue // it is no valid trace
			}
			if ok, f := bucket.Conforms(out, l); !ok || f != api.OK {
				t.Errorf("Output(%v, %v) = %v; %v does not conform to it: %d", b, s, out, l, f)
			}
			traces++
		}
	}
	if traces < 4000 {
		t.Errorf("only %d traces", traces)
	}
}

// P4.5: at most Backlog octets of a conforming trace are waiting.
func TestBacklogBounds(t *testing.T) {
	r := rand.New(rand.NewSource(47))
	traces, tight := 0, 0
	for range 6000 {
		b, s := randomBucket(r), randomServe(r)
		bound, e := curve.Backlog(b, s)
		if e != api.OK {
			continue
		}
		l := conformingTrace(r, flow{b}, 12)
		last := l[len(l)-1].At + s.Latency
		l = append(l, api.Arrival{At: last, Size: max(1, room(b, l, last))}) // when the service is about to begin
		if ok, _ := bucket.Conforms(b, l); !ok {
			l = l[:len(l)-1]
		}
		for j := range l {
			sum := 0
			for i := j; i >= 0; i-- {
				sum += l[i].Size
				sent := 0 // rounded down, which does not change whether more than an integer number of octets is left
				if busy := l[j].At - l[i].At - s.Latency; busy > 0 {
					sent = s.Rate * busy / api.Unit
				}
				if sum-sent > bound {
					t.Errorf("%v, %v: %d octets of %v wait from %d to %d; Backlog is %d", b, s, sum-sent, l, i, j, bound)
				}
				if sum-sent == bound {
					tight++
				}
			}
		}
		traces++
	}
	if traces < 1000 || tight < 100 {
		t.Errorf("only %d traces, and the bound was met %d times", traces, tight)
	}
}

// R3 and R5: nothing is written to, and equal calls have equal results.
func TestArgumentsStay(t *testing.T) {
	s := serve(1<<17, 100)
	room := append(make(trace, 0, 8), arrivals(0, 100, 10, 50, 2000, 1)...)
	roomBefore := slices.Clone(room[:cap(room)])
	pails := append(make(flow, 0, 8), pail(1000, 1<<16), pail(100, 1<<18))
	pailsBefore := slices.Clone(pails[:cap(pails)])
	first, _ := curve.Drain(room, s)
	for range 2 {
		checkDelay(t, pails, s, 5700, api.OK)
		checkDrain(t, room, s, []int{900, 1300, 2108}, api.OK)
	}
	curve.Drain(arrivals(1, 1, 2, 2, 3, 3), s)
	if !slices.Equal(first, []int{900, 1300, 2108}) {
		t.Error("a later call has changed an earlier result")
	}
	if !slices.Equal(room[:cap(room)], roomBefore) || !slices.Equal(pails[:cap(pails)], pailsBefore) {
		t.Error("an argument was changed")
	}
}
