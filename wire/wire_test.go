package wire_test

import (
	"cmp"
	"math"
	"math/big"
	"math/rand"
	"slices"
	"strings"
	"testing"

	"isochron/api"
	"isochron/wire"
)

type putter = func(s string, n, octets int) (string, api.Errno)

type getter = func(s string, at, octets int) (int, api.Errno)

// A kind of encoding: its functions, the greatest number of octets, and whether there are negative integers.
type kind struct {
	name   string
	put    putter
	get    getter
	most   int
	signed bool
}

func unsigned() kind { return kind{"", wire.Put, wire.Get, 7, false} }

func signed() kind { return kind{"Signed", wire.PutSigned, wire.GetSigned, 8, true} }

func kinds() []kind { return []kind{unsigned(), signed()} }

func exact(n int) *big.Int { return big.NewInt(int64(n)) }

// Power is 256^octets.
func power(octets int) *big.Int { return new(big.Int).Lsh(exact(1), uint(8*octets)) }

// Encoding is the encoding of n by its definition, and whether there is one.
func (k kind) encoding(n, octets int) (string, bool) {
	low, high, whole := exact(0), power(octets), exact(n)
	if k.signed {
		high.Rsh(high, 1)
		low.Neg(high)
	}
	if whole.Cmp(low) < 0 || whole.Cmp(high) >= 0 {
		return "", false
	}
	if n < 0 {
		whole.Add(whole, power(octets))
	}
	return string(whole.FillBytes(make([]byte, octets))), true
}

// Decoded is the integer with an encoding, by its definition.
func (k kind) decoded(s string) int {
	whole := new(big.Int).SetBytes([]byte(s))
	if k.signed && s[0] >= 0x80 {
		whole.Sub(whole, power(len(s)))
	}
	return int(whole.Int64())
}

// Integers are small ones, those around all limits of encodings, and some with different digits.
func integers() []int {
	l := []int{0, 1, 2, 100, 258, 0x0102030405, 0x01020304050607, 0x0102030405060708, 0x7654321089abcdef, math.MaxInt, math.MinInt}
	for bits := 7; bits < 63; bits++ {
		l = append(l, 1<<bits-2, 1<<bits-1, 1<<bits, 1<<bits+1)
	}
	for _, n := range l {
		l = append(l, -n, -n-1)
	}
	return append(l, math.MinInt+1, math.MaxInt-1)
}

// Surroundings are strings in which a field may lie, of any octets.
func surroundings() []string {
	return []string{"", "x", "\x00", "\xff", "\x80\x7f", "\xc3\xa4", "\xff\xfe\xfd\xfc\xfb\xfa\xf9\xf8\xf7", "\x00\x00\x00\x00\x00\x00\x00\x00\x00", strings.Repeat("ab\x00\xff", 300)}
}

func checkPut(t *testing.T, k kind, s string, n, octets int, want string, wantErr api.Errno) {
	t.Helper()
	if got, e := k.put(s, n, octets); got != want || e != wantErr {
		t.Errorf("Put%s(% x, %d, %d) = % x, %d; want % x, %d", k.name, s, n, octets, got, e, want, wantErr)
	}
}

func checkGet(t *testing.T, k kind, s string, at, octets, want int, wantErr api.Errno) {
	t.Helper()
	if n, e := k.get(s, at, octets); n != want || e != wantErr {
		t.Errorf("Get%s(% x, %d, %d) = %d, %d; want %d, %d", k.name, s, at, octets, n, e, want, wantErr)
	}
}

func checkField(t *testing.T, s string, at, octets int, want string, wantErr api.Errno) {
	t.Helper()
	if got, e := wire.Field(s, at, octets); got != want || e != wantErr {
		t.Errorf("Field(% x, %d, %d) = % x, %d; want % x, %d", s, at, octets, got, e, want, wantErr)
	}
}

// P5.1: the examples, and the limits of some octets.
func TestPut(t *testing.T) {
	k := unsigned()
	checkPut(t, k, "\xab", 258, 3, "\xab\x00\x01\x02", api.OK)
	checkPut(t, k, "", 256, 1, "", api.ErrBig)
	checkPut(t, k, "x", 256, 1, "", api.ErrBig)
	checkPut(t, k, "", 0, 1, "\x00", api.OK)
	checkPut(t, k, "", 255, 1, "\xff", api.OK)
	checkPut(t, k, "", 256, 2, "\x01\x00", api.OK)
	checkPut(t, k, "x", 65535, 2, "x\xff\xff", api.OK)
	checkPut(t, k, "x", 65536, 2, "", api.ErrBig)
	checkPut(t, k, "", 0, 7, "\x00\x00\x00\x00\x00\x00\x00", api.OK)
	checkPut(t, k, "", 0x01020304050607, 7, "\x01\x02\x03\x04\x05\x06\x07", api.OK)
	checkPut(t, k, "ab", 1<<56-1, 7, "ab\xff\xff\xff\xff\xff\xff\xff", api.OK)
	checkPut(t, k, "", 1<<56, 7, "", api.ErrBig)
	checkPut(t, k, "", math.MaxInt, 7, "", api.ErrBig)
	checkPut(t, k, "", math.MaxInt, 1, "", api.ErrBig)
}

// P5.2: the examples, and fields at the end of a string.
func TestGet(t *testing.T) {
	k := unsigned()
	checkGet(t, k, "\xab\x00\x01\x02", 1, 3, 258, api.OK)
	checkGet(t, k, "\xab", 0, 2, 0, api.ErrForm)
	checkGet(t, k, "\xab", -1, 1, 0, api.ErrArg)
	checkGet(t, k, "\xab", 0, 8, 0, api.ErrArg)
	checkGet(t, k, "\xab", 0, 1, 0xab, api.OK)
	checkGet(t, k, "\xab", 1, 1, 0, api.ErrForm)
	checkGet(t, k, "\xab\xcd\xef", 1, 1, 0xcd, api.OK)
	checkGet(t, k, "\xab\xcd\xef", 1, 2, 0xcdef, api.OK)
	checkGet(t, k, "\xab\xcd\xef", 0, 3, 0xabcdef, api.OK)
	checkGet(t, k, "\xab\xcd\xef", 1, 3, 0, api.ErrForm)
	checkGet(t, k, "\xff\xff\xff\xff\xff\xff\xff", 0, 7, 1<<56-1, api.OK)
	checkGet(t, k, "\xff\xff\xff\xff\xff\xff", 0, 7, 0, api.ErrForm)
	checkGet(t, k, "", 0, 1, 0, api.ErrForm)
}

// P5.3: the examples, and the limits of some octets.
func TestPutSigned(t *testing.T) {
	k := signed()
	checkPut(t, k, "", -2, 2, "\xff\xfe", api.OK)
	checkPut(t, k, "", 128, 1, "", api.ErrBig)
	checkPut(t, k, "", 127, 1, "\x7f", api.OK)
	checkPut(t, k, "", -128, 1, "\x80", api.OK)
	checkPut(t, k, "x", -129, 1, "", api.ErrBig)
	checkPut(t, k, "x", -129, 2, "x\xff\x7f", api.OK)
	checkPut(t, k, "\xab", 258, 3, "\xab\x00\x01\x02", api.OK)
	checkPut(t, k, "", -1, 7, "\xff\xff\xff\xff\xff\xff\xff", api.OK)
	checkPut(t, k, "", 1<<55-1, 7, "\x7f\xff\xff\xff\xff\xff\xff", api.OK)
	checkPut(t, k, "", 1<<55, 7, "", api.ErrBig)
	checkPut(t, k, "", -1<<55-1, 7, "", api.ErrBig)
	checkPut(t, k, "", 1<<56, 8, "\x01\x00\x00\x00\x00\x00\x00\x00", api.OK)
	checkPut(t, k, "ab", math.MaxInt, 8, "ab\x7f\xff\xff\xff\xff\xff\xff\xff", api.OK)
	checkPut(t, k, "ab", math.MinInt, 8, "ab\x80\x00\x00\x00\x00\x00\x00\x00", api.OK)
	checkPut(t, k, "", math.MaxInt, 7, "", api.ErrBig)
	checkPut(t, k, "", math.MinInt, 7, "", api.ErrBig)
}

// P5.3: the examples, and fields at the end of a string.
func TestGetSigned(t *testing.T) {
	k := signed()
	checkGet(t, k, "\xff\xfe", 0, 2, -2, api.OK)
	checkGet(t, k, "\x7f", 0, 1, 127, api.OK)
	checkGet(t, k, "\x80", 0, 1, -128, api.OK)
	checkGet(t, k, "\xff", 0, 1, -1, api.OK)
	checkGet(t, k, "\x00\x80", 0, 2, 128, api.OK)
	checkGet(t, k, "\x7f\x80\x7f", 1, 2, -32641, api.OK)
	checkGet(t, k, "\x80\x7f\x80", 1, 2, 32640, api.OK)
	checkGet(t, k, "\x7f\xff\xff\xff\xff\xff\xff\xff", 0, 8, math.MaxInt, api.OK)
	checkGet(t, k, "\x80\x00\x00\x00\x00\x00\x00\x00", 0, 8, math.MinInt, api.OK)
	checkGet(t, k, "\xff\xff\xff\xff\xff\xff\xff\xff", 0, 8, -1, api.OK)
	checkGet(t, k, "\xff\xff\xff\xff\xff\xff\xff", 0, 8, 0, api.ErrForm)
	checkGet(t, k, "\xff\xfe", 1, 2, 0, api.ErrForm)
	checkGet(t, k, "\xff", 1, 1, 0, api.ErrForm)
	checkGet(t, k, "", 0, 1, 0, api.ErrForm)
}

// P5.1 and P5.3: all integers near limits in all numbers of octets, against the definition.
func TestEncodings(t *testing.T) {
	for _, k := range kinds() {
		for octets := 1; octets <= k.most; octets++ {
			for _, n := range integers() {
				want, ok := k.encoding(n, octets)
				for _, s := range surroundings() {
					switch {
					case !k.signed && n < 0:
						checkPut(t, k, s, n, octets, "", api.ErrArg)
					case ok:
						checkPut(t, k, s, n, octets, s+want, api.OK)
					default:
						checkPut(t, k, s, n, octets, "", api.ErrBig)
					}
				}
			}
		}
	}
}

// P5.2 and P5.3: fields of all octets in all places, against the definition.
func TestDecodings(t *testing.T) {
	r := rand.New(rand.NewSource(5))
	for _, k := range kinds() {
		for range 3000 {
			l := make([]byte, r.Intn(12))
			for i := range l {
				l[i] = []byte{0, 1, 0x7f, 0x80, 0xff, byte(r.Intn(256))}[r.Intn(6)]
			}
			s := string(l)
			for octets := 1; octets <= k.most; octets++ {
				for at := range len(s) + 3 {
					if at+octets > len(s) {
						checkGet(t, k, s, at, octets, 0, api.ErrForm)
					} else {
						checkGet(t, k, s, at, octets, k.decoded(s[at:at+octets]), api.OK)
					}
				}
			}
		}
	}
}

// P5.1 to P5.3: all encodings of one and of two octets.
func TestShortEncodings(t *testing.T) {
	for _, k := range kinds() {
		for octets := 1; octets <= 2; octets++ {
			seen := map[string]bool{}
			for n := -70000; n <= 70000; n++ {
				s, e := k.put("", n, octets)
				if e != api.OK {
					continue
				}
				seen[s] = true
				if want, ok := k.encoding(n, octets); !ok || s != want {
					t.Errorf("Put%s of %d in %d octets: % x; want % x, %t", k.name, n, octets, s, want, ok)
				}
				checkGet(t, k, s, 0, octets, n, api.OK)
			}
			if len(seen) != 1<<(8*octets) {
				t.Errorf("Put%s: %d encodings in %d octets", k.name, len(seen), octets)
			}
		}
	}
}

// P5.1 to P5.3: numbers of octets that are not allowed, although other arguments are wrong, too.
func TestOctetsNotAllowed(t *testing.T) {
	s := "\x00\x01\x02\x03\x04\x05\x06\x07\x08\x09\x0a\x0b"
	for _, k := range kinds() {
		for _, octets := range []int{0, -1, -7, -8, k.most + 1, k.most + 2, 16, 64, 1 << 32, math.MaxInt, math.MinInt} {
			for _, n := range []int{0, 1, 255, 1 << 56, math.MaxInt, -1, math.MinInt} {
				checkPut(t, k, "", n, octets, "", api.ErrArg)
				checkPut(t, k, s, n, octets, "", api.ErrArg)
			}
			for _, at := range []int{0, 1, 4, 12, 13, math.MaxInt, -1, math.MinInt} {
				checkGet(t, k, s, at, octets, 0, api.ErrArg)
				checkGet(t, k, "", at, octets, 0, api.ErrArg)
			}
		}
	}
}

// P5.1: a negative integer, whatever the octets. P5.3: it is none of the errors.
func TestNegativeIntegers(t *testing.T) {
	for _, n := range []int{-1, -2, -128, -256, -1 << 56, math.MinInt} {
		for octets := range 10 {
			checkPut(t, unsigned(), "x", n, octets, "", api.ErrArg)
		}
		checkPut(t, unsigned(), "x", n, math.MaxInt, "", api.ErrArg)
		want, _ := signed().encoding(n, 8)
		checkPut(t, signed(), "x", n, 8, "x"+want, api.OK)
	}
}

// P5.2 and P5.3: offsets that are negative, and such that at + octets wraps around.
func TestOffsets(t *testing.T) {
	for _, k := range kinds() {
		for _, s := range surroundings() {
			for octets := 1; octets <= k.most; octets++ {
				for _, at := range []int{-1, -2, -octets, -len(s) - 1, -1 << 32, math.MinInt} {
					checkGet(t, k, s, at, octets, 0, api.ErrArg)
				}
				for _, at := range []int{len(s) - octets + 1, len(s), len(s) + 1, 1 << 32, math.MaxInt - octets, math.MaxInt - octets + 1, math.MaxInt} {
					if at >= 0 {
						checkGet(t, k, s, at, octets, 0, api.ErrForm)
					}
				}
			}
		}
	}
}

// P5.4: the examples, and empty fields.
func TestField(t *testing.T) {
	checkField(t, "\xab\xcd\xef", 1, 2, "\xcd\xef", api.OK)
	checkField(t, "\xab", 1, 0, "", api.OK)
	checkField(t, "\xab", 1, 1, "", api.ErrForm)
	checkField(t, "\xab", 2, 0, "", api.ErrForm)
	checkField(t, "\xab", 0, 0, "", api.OK)
	checkField(t, "\xab", 0, 1, "\xab", api.OK)
	checkField(t, "\xab", 0, 2, "", api.ErrForm)
	checkField(t, "", 0, 0, "", api.OK)
	checkField(t, "", 1, 0, "", api.ErrForm)
	checkField(t, "", 0, 1, "", api.ErrForm)
	checkField(t, "a\xc3\xa4b", 1, 1, "\xc3", api.OK)
}

// P5.4: all fields of strings, and those that they do not have.
func TestFields(t *testing.T) {
	for _, s := range surroundings() {
		s := s[:min(len(s), 40)]
		for at := range len(s) + 3 {
			for octets := range len(s) + 3 {
				if at+octets > len(s) {
					checkField(t, s, at, octets, "", api.ErrForm)
				} else {
					checkField(t, s, at, octets, s[at:at+octets], api.OK)
				}
			}
		}
	}
	long := strings.Repeat("0123456789", 10000)
	checkField(t, long, 3, 99990, long[3:99993], api.OK)
	checkField(t, long, 0, 100000, long, api.OK)
	checkField(t, long, 1, 100000, "", api.ErrForm)
}

// P5.4: negative numbers, and numbers whose sum wraps around.
func TestFieldInvalid(t *testing.T) {
	great := []int{0, 1, 3, 4, 1 << 32, 1 << 62, math.MaxInt - 1, math.MaxInt}
	for _, s := range []string{"", "x", "abc"} {
		for _, low := range []int{-1, -3, -4, -1 << 32, -math.MaxInt, math.MinInt} {
			for _, n := range append(great, low, -2) {
				checkField(t, s, low, n, "", api.ErrArg)
				checkField(t, s, n, low, "", api.ErrArg)
			}
		}
		for _, n := range great[4:] {
			for _, m := range great {
				checkField(t, s, n, m, "", api.ErrForm)
				checkField(t, s, m, n, "", api.ErrForm)
			}
		}
	}
}

// P5.5: what was appended is got back, whatever surrounds it.
func TestGetReturnsWhatPutAppended(t *testing.T) {
	for _, k := range kinds() {
		tried := 0
		for octets := 1; octets <= k.most; octets++ {
			for _, n := range integers() {
				for _, before := range surroundings() {
					s, e := k.put(before, n, octets)
					if e != api.OK {
						continue
					}
					for _, behind := range surroundings() {
						checkGet(t, k, s+behind, len(before), octets, n, api.OK)
					}
					checkField(t, s, 0, len(before), before, api.OK)
					tried++
				}
			}
		}
		if tried < 5000 {
			t.Errorf("Put%s: only %d encodings", k.name, tried)
		}
	}
}

// P5.5: fields that follow each other are all got back.
func TestRecords(t *testing.T) {
	r := rand.New(rand.NewSource(55))
	type field struct{ kind, n, at, octets int }
	for range 2000 {
		s, l := "", []field{}
		for range 1 + r.Intn(10) {
			f := field{r.Intn(2), int(r.Uint64()), len(s), 0}
			k := kinds()[f.kind]
			f.octets = 1 + r.Intn(k.most)
			f.n >>= 64 - 8*f.octets
			if !k.signed {
				f.n &= 1<<(8*f.octets) - 1
			}
			var e api.Errno
			if s, e = k.put(s, f.n, f.octets); e != api.OK {
				t.Fatalf("Put%s of %d in %d octets: %d", k.name, f.n, f.octets, e)
			}
			l = append(l, f)
		}
		for _, f := range l {
			checkGet(t, kinds()[f.kind], s, f.at, f.octets, f.n, api.OK)
		}
	}
}

// P5.5: encodings in equal numbers of octets are compared like their integers.
func TestEncodingsCompare(t *testing.T) {
	l := slices.DeleteFunc(integers(), func(n int) bool { return n < 0 })
	r := rand.New(rand.NewSource(56))
	for range 100 {
		l = append(l, r.Intn(1<<(1+r.Intn(56))))
	}
	for octets := 1; octets <= 7; octets++ {
		pairs := 0
		for _, a := range l {
			first, e := wire.Put("x", a, octets)
			if e != api.OK {
				continue
			}
			for _, b := range l {
				second, e := wire.Put("x", b, octets)
				if e != api.OK {
					continue
				}
				pairs++
				if strings.Compare(first, second) != cmp.Compare(a, b) {
					t.Errorf("%d and %d are % x and % x", a, b, first, second)
				}
			}
		}
		if pairs < 100 {
			t.Errorf("only %d pairs in %d octets", pairs, octets)
		}
	}
}

// R5: equal calls have equal results, and later calls do not change earlier results.
func TestResultsRepeat(t *testing.T) {
	s, _ := wire.Put("ab", 0x0102, 2)
	field, _ := wire.Field(s, 1, 2)
	for range 3 {
		checkPut(t, unsigned(), "ab", 0x0102, 2, "ab\x01\x02", api.OK)
		checkPut(t, unsigned(), "ab", 0x0304, 2, "ab\x03\x04", api.OK)
		checkPut(t, unsigned(), s, 5, 1, "ab\x01\x02\x05", api.OK)
		checkGet(t, unsigned(), s, 2, 2, 0x0102, api.OK)
		checkField(t, s, 1, 2, "b\x01", api.OK)
	}
	if s != "ab\x01\x02" || field != "b\x01" {
		t.Errorf("% x and % x", s, field)
	}
}
