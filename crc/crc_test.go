package crc_test

import (
	"hash/crc32"
	"math"
	"math/bits"
	"math/rand"
	"strings"
	"testing"

	"isochron/crc"
)

// Bit is bit number i of a string.
func bit(s string, i int) uint32 { return uint32(s[i/8]>>(i%8)) & 1 }

// Defined is the CRC of a string by its definition.
func defined(s string) uint32 {
	c := uint32(0xFFFFFFFF)
	for i := range 8 * len(s) {
		y := c&1 ^ bit(s, i)
		c >>= 1
		if y == 1 {
			c ^= 0xEDB88320
		}
	}
	return ^c
}

// CheckOctets are the check octets of a number by their definition.
func checkOctets(c uint32) string {
	return string([]byte{byte(c), byte(c / 0x100), byte(c / 0x10000), byte(c / 0x1000000)})
}

func sealed(s string) string { return s + checkOctets(defined(s)) }

func marked(s string) string { return s + checkOctets(defined(s)^0xFFFF0000) }

// Changed is s with the bits changed whose numbers are given.
func changed(s string, numbers ...int) string {
	l := []byte(s)
	for _, i := range numbers {
		l[i/8] ^= 1 << (i % 8)
	}
	return string(l)
}

func random(r *rand.Rand, octets int) string {
	l := make([]byte, octets)
	r.Read(l)
	return string(l)
}

// Texts are strings of all lengths up to 70 octets and some greater ones, and some with equal octets.
func texts() []string {
	r := rand.New(rand.NewSource(6))
	l := []string{"", "a", "abc", "123456789", "\x00", "\xff", "\x80", "\xc3\xa4\xc3", "\x00\x00\x00\x00", "\xff\xff\xff\xff"}
	for n := range 71 {
		l = append(l, random(r, n), strings.Repeat("\x00", n), strings.Repeat("\xff", n))
	}
	for _, n := range []int{255, 256, 257, 1000, 1518, 1522, 65535, 65536, 65537} {
		l = append(l, random(r, n), strings.Repeat("\x00", n))
	}
	return l
}

// Numbers are those with one bit, those around them, and some with different octets.
func numbers() []uint32 {
	l := []uint32{0, math.MaxUint32, 0xCBF43926, 0x01020304, 0xFFFF0000, 0x0000FFFF, 0xEDB88320}
	for i := range 32 {
		l = append(l, 1<<i, 1<<i-1, ^(1 << i))
	}
	r := rand.New(rand.NewSource(60))
	for range 200 {
		l = append(l, r.Uint32())
	}
	return l
}

func short(s string) string { return s[:min(len(s), 80)] }

func checkOf(t *testing.T, s string, want uint32) {
	t.Helper()
	if c := crc.Of(s); c != want {
		t.Errorf("Of(%x), %d octets: %08X; want %08X", short(s), len(s), c, want)
	}
}

func checkExtend(t *testing.T, c uint32, s string, want uint32) {
	t.Helper()
	if got := crc.Extend(c, s); got != want {
		t.Errorf("Extend(%08X, %x), %d octets: %08X; want %08X", c, short(s), len(s), got, want)
	}
}

func checkKinds(t *testing.T, s string, wantGood, wantMarked bool) {
	t.Helper()
	if got := crc.Good(s); got != wantGood {
		t.Errorf("Good(%x), %d octets: %t", short(s), len(s), got)
	}
	if got := crc.Marked(s); got != wantMarked {
		t.Errorf("Marked(%x), %d octets: %t", short(s), len(s), got)
	}
}

// P6.1: the examples.
func TestOfExamples(t *testing.T) {
	checkOf(t, "123456789", 0xCBF43926)
	checkOf(t, "", 0)
	checkOf(t, "a", 0xE8B7BE43)
	checkExtend(t, crc.Of("1234"), "56789", 0xCBF43926)
}

// P6.1: strings of many lengths, against the definition and the standard library.
func TestOf(t *testing.T) {
	for _, s := range texts() {
		checkOf(t, s, defined(s))
		checkOf(t, s, crc32.ChecksumIEEE([]byte(s)))
	}
	long := random(rand.New(rand.NewSource(61)), 1<<22)
	checkOf(t, long, crc32.ChecksumIEEE([]byte(long)))
}

// P6.1: all strings of one and of two octets, whose CRCs differ.
func TestOfShortStrings(t *testing.T) {
	seen := map[uint32]bool{}
	for i := range 256 {
		s := string([]byte{byte(i)})
		checkOf(t, s, defined(s))
		seen[crc.Of(s)] = true
		for j := range 256 {
			s := string([]byte{byte(i), byte(j)})
			checkOf(t, s, defined(s))
			seen[crc.Of(s)] = true
		}
	}
	if len(seen) != 256+256*256 {
		t.Errorf("%d different CRCs", len(seen))
	}
}

// P6.1: strings that are extended at all places.
func TestExtend(t *testing.T) {
	for _, s := range texts() {
		checkExtend(t, 0, s, defined(s))
		checkExtend(t, crc.Of(s), "", defined(s))
		if len(s) > 300 {
			checkExtend(t, crc.Of(s[:len(s)/3]), s[len(s)/3:], defined(s))
			continue
		}
		c := uint32(0)
		for at := range len(s) {
			checkExtend(t, crc.Of(s[:at]), s[at:], defined(s))
			c = crc.Extend(c, s[at:at+1])
		}
		if c != defined(s) {
			t.Errorf("octet by octet: %08X; want %08X for %x", c, defined(s), s)
		}
	}
}

// Behind is the string of four octets that, put behind s, makes the CRC c: the steps of its bits are undone from the last one on.
func behind(s string, c uint32) string {
	register := ^c
	for range 32 {
		if register>>31 == 1 {
			register = (register^0xEDB88320)<<1 | 1
		} else {
			register <<= 1
		}
	}
	return checkOctets(register ^ ^defined(s))
}

// P6.1: every number is the CRC of strings, and all of them are extended alike.
func TestExtendAnyNumber(t *testing.T) {
	long := strings.Repeat("0123456789abcdef", 40)
	for _, c := range numbers() {
		checkExtend(t, c, "", c)
		for _, before := range []string{"", "before"} {
			before += behind(before, c)
			checkOf(t, before, c)
			for _, s := range []string{"\x00", "\xff", "a", "123456789", "\x00\x00\x00\x00\x00", long} {
				checkExtend(t, c, s, defined(before+s))
			}
		}
	}
}

// P6.2: the examples, and all places of an octet.
func TestOctets(t *testing.T) {
	if s := crc.Octets(0xCBF43926); s != "\x26\x39\xF4\xCB" {
		t.Errorf("% X", s)
	}
	for _, c := range numbers() {
		if s := crc.Octets(c); s != checkOctets(c) {
			t.Errorf("Octets(%08X) = % X", c, s)
		}
	}
	for i := range 256 {
		for at := range 4 {
			c := uint32(i) << (8 * at)
			if s := crc.Octets(c); s != checkOctets(c) {
				t.Errorf("Octets(%08X) = % X", c, s)
			}
		}
	}
}

// P6.2: sealed and marked strings by their definitions.
func TestSealAndMark(t *testing.T) {
	if s := crc.Seal("a"); s != "a\x43\xBE\xB7\xE8" {
		t.Errorf("Seal of a: % X", s)
	}
	if s := crc.Mark("a"); s != "a\x43\xBE\x48\x17" {
		t.Errorf("Mark of a: % X", s)
	}
	if s := crc.Seal(""); s != "\x00\x00\x00\x00" {
		t.Errorf("Seal of nothing: % X", s)
	}
	if s := crc.Mark(""); s != "\x00\x00\xFF\xFF" {
		t.Errorf("Mark of nothing: % X", s)
	}
	for _, s := range texts() {
		if got := crc.Seal(s); got != sealed(s) {
			t.Errorf("Seal(%x), %d octets: %x", short(s), len(s), short(got))
		}
		if got := crc.Mark(s); got != marked(s) {
			t.Errorf("Mark(%x), %d octets: %x", short(s), len(s), short(got))
		}
	}
}

// P6.3: the examples, and the strings with the check octets of the empty string.
func TestGoodExamples(t *testing.T) {
	checkKinds(t, crc.Seal("a"), true, false)
	checkKinds(t, crc.Mark("a"), false, true)
	checkKinds(t, "a", false, false)
	checkKinds(t, "\x00\x00\x00\x00", true, false)
	checkKinds(t, "\x00\x00\xFF\xFF", false, true)
	checkKinds(t, "\xFF\xFF\x00\x00", false, false)
	checkKinds(t, "\xFF\xFF\xFF\xFF", false, false)
}

// P6.3: sealed and marked strings, and what is not quite one of them.
func TestGoodAndMarked(t *testing.T) {
	for _, s := range texts() {
		checkKinds(t, sealed(s), true, false)
		checkKinds(t, marked(s), false, true)
		checkKinds(t, sealed(sealed(s)), true, false)
		checkKinds(t, marked(sealed(s)), false, true)
		checkKinds(t, sealed(marked(s)), true, false)
		for _, c := range []uint32{defined(s), defined(s) ^ 0xFFFF0000} {
			checkKinds(t, s+checkOctets(c)[:3], false, false)
			for i := range 32 {
				checkKinds(t, s+checkOctets(c^1<<i), false, false)
			}
			for _, other := range []uint32{^c, bits.ReverseBytes32(c), bits.Reverse32(c), c + 1, c ^ 0xFF000000, c ^ 0xFF} {
				if other != defined(s) && other != defined(s)^0xFFFF0000 {
					checkKinds(t, s+checkOctets(other), false, false)
				}
			}
		}
	}
}

// P6.3: strings with any check octets, by the definition.
func TestAnyCheckOctets(t *testing.T) {
	for _, s := range texts() {
		at := max(0, len(s)-4)
		whole := len(s) >= 4
		checkKinds(t, s, whole && s == sealed(s[:at]), whole && s == marked(s[:at]))
	}
	for _, c := range numbers() {
		for _, s := range []string{"", "\x00", "abc", "123456789"} {
			checkKinds(t, s+checkOctets(c), c == defined(s), c == defined(s)^0xFFFF0000)
		}
		before := "any" + behind("any", c) // its CRC is c
		checkKinds(t, before+checkOctets(c), true, false)
		checkKinds(t, before+checkOctets(c^0xFFFF0000), false, true)
	}
}

// P6.3: strings of less than four octets.
func TestTooShort(t *testing.T) {
	checkKinds(t, "", false, false)
	for i := range 256 {
		checkKinds(t, string([]byte{byte(i)}), false, false)
		for j := range 256 {
			checkKinds(t, string([]byte{byte(i), byte(j)}), false, false)
			checkKinds(t, string([]byte{0, byte(i), byte(j)}), false, false)
			checkKinds(t, string([]byte{0xFF, byte(i), byte(j)}), false, false)
		}
	}
}

// P6.4: whatever the check octets are, there is not more than one kind.
func TestNotBothKinds(t *testing.T) {
	r := rand.New(rand.NewSource(64))
	for range 20000 {
		s := random(r, r.Intn(12))
		for _, s := range []string{s, crc.Seal(s), crc.Mark(s)} {
			if crc.Good(s) && crc.Marked(s) {
				t.Errorf("both: %x", s)
			}
		}
	}
}

// P6.4: bits that lie close together are changed: all ways for up to 8 bits, and some for up to 32.
func TestChangedRuns(t *testing.T) {
	r := rand.New(rand.NewSource(640))
	for _, octets := range []int{0, 1, 2, 5, 30} {
		s := crc.Seal(random(r, octets))
		for first := range 8 * len(s) {
			for pattern := 1; pattern < 1<<8; pattern++ {
				checkRun(t, s, first, uint32(pattern))
			}
			for length := 1; length <= 32; length++ {
				all := uint32(1<<length - 1)
				checkRun(t, s, first, all)
				checkRun(t, s, first, 1|1<<(length-1))
				checkRun(t, s, first, r.Uint32()&all)
			}
		}
	}
	s := crc.Seal(random(r, 1518))
	for range 3000 {
		checkRun(t, s, r.Intn(8*len(s)), r.Uint32()|1)
	}
}

// CheckRun changes the bits of a sealed string, from first on, that are set in pattern.
func checkRun(t *testing.T, s string, first int, pattern uint32) {
	t.Helper()
	var l []int
	for i := range 32 {
		if pattern>>i&1 == 1 && first+i < 8*len(s) {
			l = append(l, first+i)
		}
	}
	if len(l) > 0 && crc.Good(changed(s, l...)) {
		t.Errorf("%x is good with the bits %d changed", short(s), l)
	}
}

// P6.4: two bits are changed: all pairs of short strings, and some of long ones.
func TestTwoChangedBits(t *testing.T) {
	r := rand.New(rand.NewSource(641))
	for _, octets := range []int{0, 1, 2, 10, 30} {
		s := crc.Seal(random(r, octets))
		for i := range 8 * len(s) {
			for j := range i {
				if crc.Good(changed(s, i, j)) {
					t.Errorf("%x is good with the bits %d and %d changed", s, i, j)
				}
			}
		}
	}
	for range 3000 {
		s := crc.Seal(random(r, 500+r.Intn(501)))
		i, j := r.Intn(8*len(s)), r.Intn(8*len(s))
		if i != j && crc.Good(changed(s, i, j)) {
			t.Errorf("a string of %d octets is good with the bits %d and %d changed", len(s), i, j)
		}
	}
}

// P6.4: changes of single bits change the CRC of 1000 octets in different ways, and in more bits than one, so that no other change of one bit undoes them, in the string or in the check octets.
func TestChangesDiffer(t *testing.T) {
	s := random(rand.New(rand.NewSource(642)), 1000)
	seen := map[uint32]bool{}
	for i := range 8 * len(s) {
		change := crc.Of(s) ^ crc.Of(changed(s, i))
		if seen[change] || bits.OnesCount32(change) < 2 {
			t.Errorf("bit %d changes the CRC by %08X", i, change)
		}
		seen[change] = true
	}
}

// Mixed is the exclusive or of three strings of equal length.
func mixed(a, b, c string) string {
	l := []byte(a)
	for i := range l {
		l[i] ^= b[i] ^ c[i]
	}
	return string(l)
}

// P6.4: the exclusive or of three strings.
func TestExclusiveOr(t *testing.T) {
	r := rand.New(rand.NewSource(643))
	for octets := range 200 {
		a, b, c := random(r, octets), random(r, octets), random(r, octets)
		checkOf(t, mixed(a, b, c), crc.Of(a)^crc.Of(b)^crc.Of(c))
		checkKinds(t, mixed(crc.Seal(a), crc.Seal(b), crc.Seal(c)), true, false)
		checkKinds(t, mixed(crc.Seal(a), crc.Mark(b), crc.Seal(c)), false, true)
	}
}

// R5: equal calls have equal results, and later calls do not change earlier results.
func TestResultsRepeat(t *testing.T) {
	good, mark, octets := crc.Seal("abc"), crc.Mark("abc"), crc.Octets(0x01020304)
	l := []string{good, mark, octets}
	for range 3 {
		checkOf(t, "a", 0xE8B7BE43)
		checkOf(t, "", 0)
		checkExtend(t, 0x12345678, "", 0x12345678)
		checkKinds(t, good, true, false)
		checkKinds(t, mark, false, true)
		l = append(l, crc.Seal("abc"), crc.Mark("abc"), crc.Octets(0x01020304))
	}
	for i, s := range l {
		if want := []string{"abc\xC2\x41\x24\x35", "abc\xC2\x41\xDB\xCA", "\x04\x03\x02\x01"}[i%3]; s != want {
			t.Errorf("result %d: % X; want % X", i, s, want)
		}
	}
}
