package frame_test

import (
	"encoding/binary"
	"fmt"
	"hash/crc32"
	"math"
	"math/rand"
	"slices"
	"strings"
	"testing"

	"isochron/api"
	"isochron/crc"
	"isochron/frame"
)

// Valid says whether a frame is valid, by the definition.
func valid(f api.Frame) bool {
	if f.Dst < 0 || f.Dst > 0xFFFFFFFFFFFF || f.Src < 0 || f.Src > 0xFFFFFFFFFFFF {
		return false
	}
	if f.HasTag && (f.Prio < 0 || f.Prio > 7 || f.Vid < 0 || f.Vid > 4094) || !f.HasTag && (f.Prio != 0 || f.Vid != 0) {
		return false
	}
	if f.HasSeq && (f.Seq < 0 || f.Seq > 65535) || !f.HasSeq && f.Seq != 0 {
		return false
	}
	if f.Type != 0 && (f.Type < 1536 || f.Type > 65535 || f.Type == 0x8100 || f.Type == 0xF1C1) {
		return false
	}
	return len(f.Data) <= 1494 || len(f.Data) <= 1500 && !f.HasSeq
}

// Sealed is the sealed string of s, with the standard library's CRC.
func sealed(s string) string {
	return string(binary.LittleEndian.AppendUint32([]byte(s), crc32.ChecksumIEEE([]byte(s))))
}

// Before is what comes before the Data in the encoding of a valid frame, by the definition.
func before(f api.Frame) string {
	l := binary.BigEndian.AppendUint64(nil, uint64(f.Dst))[2:]
	l = append(l, binary.BigEndian.AppendUint64(nil, uint64(f.Src))[2:]...)
	if f.HasTag {
		l = append(l, 0x81, 0x00, byte(f.Prio<<5|f.Vid>>8), byte(f.Vid))
	}
	if f.HasSeq {
		l = append(l, 0xF1, 0xC1, 0x00, 0x00, byte(f.Seq>>8), byte(f.Seq))
	}
	if f.Type == 0 {
		return string(append(l, byte(len(f.Data)>>8), byte(len(f.Data))))
	}
	return string(append(l, byte(f.Type>>8), byte(f.Type)))
}

// Encoding is the encoding of a valid frame, by the definition.
func encoding(f api.Frame) string {
	s := before(f) + f.Data
	for len(s) < 60 {
		s += "\x00"
	}
	return sealed(s)
}

// Candidates are all frames whose encoding may be s, as far as their Type, Data and tags are where the encoding would have them.
func candidates(s string) []api.Frame {
	var l []api.Frame
	at := func(i int) int { return int(binary.BigEndian.Uint16([]byte(s[i:]))) }
	for tags := range 8 {
		f := api.Frame{Dst: at(0)<<32 | at(2)<<16 | at(4), Src: at(6)<<32 | at(8)<<16 | at(10)}
		i := 12
		if tags&1 != 0 {
			f.HasTag, f.Prio, f.Vid = true, at(i+2)/8192, at(i+2)%8192
			i += 4
		}
		if tags&2 != 0 {
			f.HasSeq, f.Seq = true, at(i+4)
			i += 6
		}
		if tags&4 != 0 {
			f.Type = at(i)
		}
		i += 2
		for end := i; end <= len(s)-4; end++ {
			f.Data = s[i:end]
			if max(60, end)+4 == len(s) && valid(f) && strings.HasPrefix(s, before(f)) {
				l = append(l, f)
			}
		}
	}
	return l
}

// Expected is what Decode must return, by its definition: of all frames with the encoding s, the one with the longest Data.
func expected(s string) (api.Frame, api.Errno) {
	if len(s) < 64 {
		return api.Frame{}, api.ErrForm
	}
	best, e := api.Frame{}, api.ErrForm
	for _, f := range candidates(s) {
		if encoding(f) == s && (e != api.OK || len(f.Data) > len(best.Data)) {
			best, e = f, api.OK
		}
	}
	return best, e
}

func short(s string) string { return s[:min(len(s), 80)] }

// Text shows a frame, without most of its Data.
func text(f api.Frame) string {
	data := f.Data
	f.Data = ""
	return fmt.Sprintf("%+v with Data % x, %d octets", f, short(data), len(data))
}

func checkFrame(t *testing.T, f api.Frame) {
	t.Helper()
	wantErr, want, wantWire := api.ErrFrame, "", 0
	if valid(f) {
		wantErr, want = api.OK, encoding(f)
		wantWire = len(want) + 20
	}
	if e := frame.Check(f); e != wantErr {
		t.Fatalf("Check(%s) = %d; want %d", text(f), e, wantErr)
	}
	if s, e := frame.Encode(f); s != want || e != wantErr {
		t.Fatalf("Encode(%s) = % x, %d; want % x, %d", text(f), short(s), e, short(want), wantErr)
	}
	if n, e := frame.Wire(f); n != wantWire || e != wantErr {
		t.Fatalf("Wire(%s) = %d, %d; want %d, %d", text(f), n, e, wantWire, wantErr)
	}
}

func checkInvalid(t *testing.T, f api.Frame) {
	t.Helper()
	if valid(f) {
		t.Fatalf("%s is valid", text(f))
	}
	checkFrame(t, f)
}

func checkValid(t *testing.T, f api.Frame) {
	t.Helper()
	if !valid(f) {
		t.Fatalf("%s is not valid", text(f))
	}
	checkFrame(t, f)
}

func checkDecode(t *testing.T, s string, want api.Frame, wantErr api.Errno) {
	t.Helper()
	if f, e := frame.Decode(s); f != want || e != wantErr {
		t.Fatalf("Decode(% x), %d octets: %s, %d; want %s, %d", short(s), len(s), text(f), e, text(want), wantErr)
	}
}

func checkNone(t *testing.T, s string) {
	t.Helper()
	checkDecode(t, s, api.Frame{}, api.ErrForm)
}

func checkExpected(t *testing.T, s string) {
	t.Helper()
	want, wantErr := expected(s)
	checkDecode(t, s, want, wantErr)
}

// Example is the frame f of the chapter's examples.
func example() api.Frame { return api.Frame{Dst: 1, Src: 2, Type: 0x0800, Data: "hello"} }

// Kinds are frames without Data, with all combinations of tags, with a length and with Types at their limits.
func kinds() []api.Frame {
	var l []api.Frame
	for _, kind := range []int{0, 1536, 0x0800, 0x80FF, 0x8101, 0xF1C0, 0xF1C2, 65535} {
		f := api.Frame{Dst: 0x0180C200000E, Src: 0x020304050607, Type: kind}
		l = append(l, f)
		f.HasSeq, f.Seq = true, 0x0102
		l = append(l, f)
		f.HasTag, f.Prio, f.Vid = true, 5, 0x0203
		l = append(l, f)
		f.HasSeq, f.Seq = false, 0
		l = append(l, f)
	}
	return l
}

func most(f api.Frame) int {
	if f.HasSeq {
		return 1494
	}
	return 1500
}

func random(r *rand.Rand, octets int) string {
	l := make([]byte, octets)
	r.Read(l)
	return string(l)
}

// Some is a valid frame, with fields and lengths of Data that are often at their limits.
func some(r *rand.Rand) api.Frame {
	f := kinds()[r.Intn(len(kinds()))]
	f.Dst = []int{0, 1, 1<<48 - 1, r.Intn(1 << 48)}[r.Intn(4)]
	f.Src = []int{0, 1, 1<<48 - 1, r.Intn(1 << 48)}[r.Intn(4)]
	if f.HasTag {
		f.Prio, f.Vid = r.Intn(8), []int{0, 1, 4094, r.Intn(4095)}[r.Intn(4)]
	}
	if f.HasSeq {
		f.Seq = []int{0, 255, 256, 65535, r.Intn(65536)}[r.Intn(5)]
	}
	if n := r.Intn(65536); n >= 1536 && n != 0x8100 && n != 0xF1C1 && r.Intn(3) == 0 {
		f.Type = n
	}
	f.Data = random(r, []int{0, r.Intn(10), r.Intn(70), r.Intn(most(f) + 1), most(f)}[r.Intn(5)])
	return f
}

// P7.1: the examples of frames that are not valid, and of valid ones.
func TestCheckExamples(t *testing.T) {
	checkValid(t, example())
	checkValid(t, api.Frame{})
	f := example()
	f.Vid = 3
	checkInvalid(t, f)
	for _, kind := range []int{100, 0x8100} {
		f := example()
		f.Type = kind
		checkInvalid(t, f)
	}
}

// P7.1: the octets of the examples, and all fields of a frame.
func TestEncodeExamples(t *testing.T) {
	s, e := frame.Encode(example())
	if want := "\x00\x00\x00\x00\x00\x01\x00\x00\x00\x00\x00\x02\x08\x00hello" + strings.Repeat("\x00", 41); e != api.OK || len(s) != 64 || s[:60] != want || !crc.Good(s) {
		t.Errorf("% x, %d", s, e)
	}
	f := example()
	f.HasTag, f.Prio, f.Vid, f.HasSeq, f.Seq = true, 5, 3, true, 258
	s, e = frame.Encode(f)
	if e != api.OK || len(s) != 64 || s[12:24] != "\x81\x00\xA0\x03\xF1\xC1\x00\x00\x01\x02\x08\x00" {
		t.Errorf("% x, %d", s, e)
	}
	f = api.Frame{Dst: 0x0102030405F6, Src: 0xA1A2A3A4A5A6, HasTag: true, Prio: 7, Vid: 0xABC, HasSeq: true, Seq: 0xFEDC, Data: strings.Repeat("d", 300)}
	s, e = frame.Encode(f)
	if want := "\x01\x02\x03\x04\x05\xF6\xA1\xA2\xA3\xA4\xA5\xA6\x81\x00\xEA\xBC\xF1\xC1\x00\x00\xFE\xDC\x01\x2C" + f.Data; e != api.OK || s != sealed(want) {
		t.Errorf("% x, %d", s, e)
	}
}

// P7.1: the examples of sizes.
func TestWireExamples(t *testing.T) {
	checkWire := func(f api.Frame, want int) {
		t.Helper()
		if n, e := frame.Wire(f); n != want || e != api.OK {
			t.Errorf("Wire(%s) = %d, %d; want %d", text(f), n, e, want)
		}
	}
	f := example()
	checkWire(f, 84)
	f.Data = strings.Repeat("x", 1500)
	checkWire(f, 1538)
	f.HasTag, f.Vid = true, 5
	checkWire(f, 1542)
	f.HasSeq, f.Data = true, f.Data[:1494]
	checkWire(f, 1542)
	f.HasTag, f.Vid = false, 0
	checkWire(f, 1538)
	f.Data = f.Data[:40]
	checkWire(f, 84)
	f.Data += "x"
	checkWire(f, 85)
}

// P7.1: each field at and beyond its limits, with all combinations of tags.
func TestFieldLimits(t *testing.T) {
	far := []int{math.MinInt, math.MinInt + 1, -1 << 48, -65536, -8192, -1, 1 << 48, 1<<48 + 1, 1<<56 + 1, 1 << 62, math.MaxInt}
	for _, f := range kinds() {
		checkValid(t, f)
		for _, n := range append(far, 0, 1, 0xFFFFFFFF, 1<<48-1) {
			g := f
			g.Dst = n
			checkFrame(t, g)
			g.Dst, g.Src = f.Src, n
			checkFrame(t, g)
		}
		for _, n := range append(far, 0, 1, 7, 8, 9, 4094, 4095, 4096, 8191, 8192, 65535, 65536, 65537) {
			g := f
			g.Prio = n
			checkFrame(t, g)
			g.Prio, g.Vid = f.Prio, n
			checkFrame(t, g)
			g.Vid, g.Seq = f.Vid, n
			checkFrame(t, g)
		}
		for _, n := range far {
			g := f
			g.Type = n
			checkInvalid(t, g)
		}
	}
}

// P7.1: all priorities, VLANs and sequence numbers, and what is left of them without their tags.
func TestAllTags(t *testing.T) {
	for vid := -1; vid <= 4097; vid++ {
		for prio := -1; prio <= 8; prio++ {
			checkFrame(t, api.Frame{HasTag: true, Prio: prio, Vid: vid, Type: 0x0800})
		}
	}
	for n := -1; n <= 65537; n++ {
		checkFrame(t, api.Frame{HasSeq: true, Seq: n, Type: 0x0800})
		if n != 0 {
			checkInvalid(t, api.Frame{Seq: n, Type: 0x0800})
			checkInvalid(t, api.Frame{Vid: n})
			checkInvalid(t, api.Frame{Prio: n})
			checkInvalid(t, api.Frame{HasTag: true, Seq: n})
			checkInvalid(t, api.Frame{HasSeq: true, Vid: n})
			checkInvalid(t, api.Frame{HasSeq: true, Prio: n})
		}
	}
}

// P7.1: all Types.
func TestAllTypes(t *testing.T) {
	for n := -1; n <= 70000; n++ {
		checkFrame(t, api.Frame{Type: n, Data: "x"})
		checkFrame(t, api.Frame{HasTag: true, HasSeq: true, Type: n})
	}
	for _, n := range []int{-1, 1, 46, 64, 1500, 1501, 1535, 0x8100, 0xF1C1, 65536} {
		checkInvalid(t, api.Frame{Type: n})
	}
	for _, n := range []int{0, 1536, 0x8101, 0xF1C0, 65535} {
		checkValid(t, api.Frame{Type: n})
	}
}

// P7.1 and P7.3: all lengths of Data, and their sizes on the wire.
func TestLengths(t *testing.T) {
	data := random(rand.New(rand.NewSource(71)), 1600)
	for _, f := range kinds() {
		for n := range len(data) {
			f.Data = data[:n]
			checkFrame(t, f)
			size, e := frame.Wire(f)
			if (e == api.OK) != (n <= most(f)) {
				t.Errorf("%s: %d", text(f), e)
			}
			if e == api.OK && (size < api.MinSize || size > api.MaxSize) {
				t.Errorf("%s: %d octets on the wire", text(f), size)
			}
		}
	}
	f := example()
	f.Data = strings.Repeat("x", 1<<20)
	checkInvalid(t, f)
}

// P7.1: frames with several fields that may be invalid.
func TestRandomFrames(t *testing.T) {
	r := rand.New(rand.NewSource(72))
	ok := 0
	for range 20000 {
		f := some(r)
		checkValid(t, f)
		switch r.Intn(7) {
		case 0:
			f.Dst = int(r.Uint64()) >> r.Intn(40)
		case 1:
			f.Src = int(r.Uint64()) >> r.Intn(40)
		case 2:
			f.HasTag = !f.HasTag
		case 3:
			f.HasSeq = !f.HasSeq
		case 4:
			f.Type = r.Intn(70000) - 10
		case 5:
			f.Vid = r.Intn(5000) - 10
		case 6:
			f.Data = random(r, 1490+r.Intn(20))
		}
		checkFrame(t, f)
		if valid(f) {
			ok++
		}
	}
	if ok < 2000 || ok > 18000 {
		t.Errorf("%d frames are valid", ok)
	}
}

// P7.2: the examples.
func TestDecodeExamples(t *testing.T) {
	f := example()
	s, _ := frame.Encode(f)
	f.Data += strings.Repeat("\x00", 41)
	checkDecode(t, s, f, api.OK)
	f = example()
	f.Type = 0
	s, _ = frame.Encode(f)
	checkDecode(t, s, f, api.OK)
	checkNone(t, strings.Repeat("\x00", 64))
	checkDecode(t, sealed(strings.Repeat("\x00", 60)), api.Frame{}, api.OK)
}

// P7.2 and P7.3: all lengths of Data are got back, and short Data with a Type is extended.
func TestDecodeLengths(t *testing.T) {
	data := random(rand.New(rand.NewSource(73)), 1499) + "x"
	for _, f := range kinds() {
		for n := range most(f) + 1 {
			f.Data = data[:n]
			s := encoding(f)
			if f.Type != 0 {
				f.Data += strings.Repeat("\x00", max(0, 60-len(before(f))-n))
			}
			checkDecode(t, s, f, api.OK)
			checkFrame(t, f)
			if again, e := frame.Encode(f); again != s || e != api.OK {
				t.Errorf("Encode(%s) = % x, %d; want % x", text(f), short(again), e, short(s))
			}
		}
	}
}

// P7.2: Data that has octets 00 at its end, or nothing else.
func TestDecodeZeros(t *testing.T) {
	for _, f := range kinds() {
		for n := range 100 {
			for _, first := range []string{"", "a", "a\x00b"} {
				f.Data = first + strings.Repeat("\x00", n)
				checkExpected(t, encoding(f))
			}
		}
	}
}

// P7.2 and P7.3: valid frames, and the definition of what is decoded.
func TestDecodeRandomFrames(t *testing.T) {
	r := rand.New(rand.NewSource(74))
	for range 10000 {
		f := some(r)
		s := encoding(f)
		checkExpected(t, s)
		got, e := frame.Decode(s)
		g := got
		g.Data = f.Data
		if e != api.OK || g != f || !strings.HasPrefix(got.Data, f.Data) || strings.Trim(got.Data[len(f.Data):], "\x00") != "" {
			t.Errorf("%s is decoded to %s, %d", text(f), text(got), e)
		}
		if f.Type == 0 && got != f {
			t.Errorf("%s is decoded to %s", text(f), text(got))
		}
	}
}

// With is s with other octets from an offset on.
func with(s string, at int, octets string) string {
	return s[:at] + octets + s[at+len(octets):]
}

func two(n int) string { return string([]byte{byte(n >> 8), byte(n)}) }

// P7.2: all integers where a frame has a Type or a length, behind each combination of tags.
func TestDecodeAllTypes(t *testing.T) {
	for _, f := range kinds()[:4] {
		at := len(before(f)) - 2
		s := before(f) + random(rand.New(rand.NewSource(75)), 60-at-2)
		for n := range 65536 {
			if n == 0x8100 || n == 0xF1C1 {
				continue // the next octets are a part of a tag then
			}
			want := f
			want.Type, want.Data = n, s[at+2:]
			s := sealed(with(s, at, two(n)))
			switch {
			case n >= 1536:
				checkDecode(t, s, want, api.OK)
			case n == 60-at-2:
				want.Type = 0
				checkDecode(t, s, want, api.OK)
			default:
				checkNone(t, s)
			}
		}
	}
}

// P7.2: all lengths, of strings of each length, whose other octets are 00.
func TestDecodeAllLengths(t *testing.T) {
	zeros := strings.Repeat("\x00", 1600)
	for _, f := range kinds()[:4] {
		at := len(before(f)) - 2
		for n := range 1600 {
			for _, octets := range []int{59, 60, 61, 62, at + 2, at + 1 + n, at + 2 + n, at + 3 + n} {
				if octets < at+2 {
					continue
				}
				s := sealed(with(before(f)+zeros[:octets-at-2], at, two(n)))
				if n <= most(f) && octets == max(60, at+2+n) {
					g := f
					g.Data = zeros[:n]
					checkDecode(t, s, g, api.OK)
				} else if n < 1536 {
					checkNone(t, s)
				} else {
					checkExpected(t, s)
				}
			}
		}
	}
}

// P7.2: all integers in a VLAN tag: those with the bit between Prio and Vid are not encodings, nor is the VLAN 4095.
func TestDecodeAllControls(t *testing.T) {
	for _, f := range kinds()[:8] {
		if !f.HasTag {
			continue
		}
		s := encoding(f)
		for n := range 65536 {
			s := sealed(with(s[:60], 14, two(n)))
			want := f
			want.Prio, want.Vid = n>>13, n&0xFFF
			if f.Type != 0 {
				want.Data = s[len(before(f)):60]
			}
			if n&0x1000 != 0 || want.Vid == 4095 {
				checkNone(t, s)
			} else {
				checkDecode(t, s, want, api.OK)
			}
		}
	}
}

// P7.2: all sequence numbers in a redundancy tag, and integers other than 0 before them.
func TestDecodeAllSequenceNumbers(t *testing.T) {
	for _, f := range kinds()[1:7] {
		if !f.HasSeq {
			continue
		}
		s, at := encoding(f), strings.Index(before(f), "\xF1\xC1")
		for n := range 65536 {
			want := f
			want.Seq = n
			if f.Type != 0 {
				want.Data = s[len(before(f)):60]
			}
			checkDecode(t, sealed(with(s[:60], at+4, two(n))), want, api.OK)
		}
		for i := range 16 {
			checkNone(t, sealed(with(s[:60], at+2, two(1<<i))))
			checkNone(t, sealed(with(s[:60], at+2, two(2<<i-1))))
		}
	}
}

// P7.2: tags that are repeated or in the wrong order, of which the last one would be the Type.
func TestDecodeTagsOutOfOrder(t *testing.T) {
	vlan, redundancy := "\x81\x00\x00\x05", "\xF1\xC1\x00\x00\x00\x09"
	for _, tags := range []string{vlan + vlan, redundancy + vlan, redundancy + redundancy, vlan + redundancy + vlan, vlan + redundancy + redundancy, vlan + vlan + redundancy} {
		for _, kind := range []string{"\x08\x00", "\x00\x2E", "\x00\x00", "\xFF\xFF"} {
			for octets := 40; octets < 80; octets++ {
				s := strings.Repeat("address ", 2)[:12] + tags + kind
				checkNone(t, sealed(s+strings.Repeat("\x00", octets-len(s))))
			}
		}
	}
}

// P7.2: tags that end too early, so that what is behind them is a part of them.
func TestDecodeHalfTags(t *testing.T) {
	vlan, redundancy := "\x81\x00\x00\x05", "\xF1\xC1\x00\x00\x00\x09"
	for _, tags := range []string{vlan[:2], vlan[:3], redundancy[:2], redundancy[:4], redundancy[:5], vlan + vlan[:2], vlan + redundancy[:2], vlan + redundancy[:4], redundancy + vlan[:2]} {
		for _, behind := range []string{"", "\x08\x00", "\x00\x2E", "\x00\x00", "\x81\x00", "\xF1\xC1"} {
			for octets := 30; octets < 80; octets++ {
				s := strings.Repeat("address ", 2)[:12] + tags + behind
				checkExpected(t, sealed(s+strings.Repeat("\x00", octets-len(s))))
				checkExpected(t, s)
			}
		}
	}
}

// P7.2: padding with other octets than 00 is Data with a Type, and not an encoding with a length.
func TestDecodePadding(t *testing.T) {
	for _, f := range kinds() {
		f.Data = "abc"
		s := encoding(f)[:60]
		for at := len(before(f)) + 3; at < 60; at++ {
			for _, octet := range []string{"\x01", "\x80", "\xFF"} {
				s := sealed(with(s, at, octet))
				if f.Type == 0 {
					checkNone(t, s)
				} else {
					want := f
					want.Data = s[len(before(f)):60]
					checkDecode(t, s, want, api.OK)
				}
			}
		}
	}
}

// P7.2: strings that are too short, with and without check octets that fit.
func TestDecodeShortStrings(t *testing.T) {
	checkNone(t, "")
	for _, f := range kinds() {
		s := encoding(f)
		for n := range 64 {
			checkNone(t, s[:n])
			checkNone(t, s[64-n:])
			checkNone(t, strings.Repeat("\x00", n))
			if n < 60 {
				checkNone(t, sealed(s[:n]))
				checkNone(t, sealed(strings.Repeat("\x00", n)))
				checkNone(t, sealed(strings.Repeat("\xFF", n)))
			}
		}
	}
}

// P7.2: strings that are too long, for their kind of frame or for all of them.
func TestDecodeLongStrings(t *testing.T) {
	data := random(rand.New(rand.NewSource(77)), 100000)
	for _, f := range kinds() {
		for n := most(f) - 3; n < most(f)+20; n++ {
			s := sealed(before(f) + data[:n])
			if f.Type == 0 {
				checkNone(t, s)
				s = sealed(with(s[:len(s)-4], len(before(f))-2, two(n)))
			}
			want := f
			want.Data = data[:n]
			if n <= most(f) {
				checkDecode(t, s, want, api.OK)
			} else {
				checkNone(t, s)
			}
		}
		checkNone(t, sealed(before(f)+data))
	}
}

// P7.2: encodings with more octets, less octets, or other check octets.
func TestDecodeCheckOctets(t *testing.T) {
	r := rand.New(rand.NewSource(78))
	for range 3000 {
		s := encoding(some(r))
		body := s[:len(s)-4]
		for _, s := range []string{s + "\x00", s + sealed(s)[len(s):], "\x00" + s, s[1:], s[:len(s)-1], body, body + "\x00\x00\x00\x00", body + "\xFF\xFF\xFF\xFF", crc.Mark(body), sealed(s), sealed(body[:len(body)-1]), sealed(body + "\x00"), sealed(body[1:])} {
			checkExpected(t, s)
		}
		for _, s := range []string{s + "\x00", body, crc.Mark(body)} {
			checkNone(t, s)
		}
	}
}

// P7.2: encodings of which some octets are changed, and that are sealed again.
func TestDecodeChangedOctets(t *testing.T) {
	r := rand.New(rand.NewSource(79))
	decoded := 0
	for range 10000 {
		f := some(r)
		f.Data = f.Data[:min(len(f.Data), 60)]
		l := []byte(encoding(f))
		l = l[:len(l)-4]
		for range 1 + r.Intn(3) {
			l[12+r.Intn(min(len(l)-12, 14))] = []byte{0, 1, 0x81, 0xF1, 0xC1, 0x08, 0x10, 0x2E, byte(r.Intn(256))}[r.Intn(9)]
		}
		s := sealed(string(l))
		checkExpected(t, s)
		if _, e := frame.Decode(s); e == api.OK {
			decoded++
		}
	}
	if decoded < 1000 || decoded > 9000 {
		t.Errorf("%d strings are encodings", decoded)
	}
}

// P7.2: what is decoded is valid and has this encoding, whatever the octets are.
func TestDecodeRandomStrings(t *testing.T) {
	r := rand.New(rand.NewSource(710))
	for range 20000 {
		s := random(r, r.Intn(100))
		checkExpected(t, s)
		s = sealed(s)
		checkExpected(t, s)
		if f, e := frame.Decode(s); e == api.OK && (!valid(f) || encoding(f) != s) {
			t.Errorf("% x is decoded to %s", s, text(f))
		}
	}
}

// Changed is s with the bits changed, from bit number first on, that are set in pattern; bits are numbered from the least significant one of each octet.
func changed(s string, first int, pattern uint32) string {
	l := []byte(s)
	for i := range 32 {
		if at := first + i; pattern>>i&1 == 1 && at < 8*len(l) {
			l[at/8] ^= 1 << (at % 8)
		}
	}
	return string(l)
}

// P7.3: some of 32 consecutive bits are changed, anywhere in an encoding.
func TestDecodeChangedRuns(t *testing.T) {
	r := rand.New(rand.NewSource(711))
	for _, f := range kinds() {
		f.Data = random(r, []int{0, 10, 60}[r.Intn(3)])
		s := encoding(f)
		for first := range 8 * len(s) {
			for _, pattern := range []uint32{1, 3, 0xFF, 0x80000001, math.MaxUint32, r.Uint32() | 1, r.Uint32() | 1} {
				checkNone(t, changed(s, first, pattern))
			}
		}
	}
	for range 2000 {
		s := encoding(some(r))
		checkNone(t, changed(s, r.Intn(8*len(s)), r.Uint32()|1))
	}
}

// P7.3: sizes on the wire are within the limits of package api, and reach both.
func TestSizes(t *testing.T) {
	r := rand.New(rand.NewSource(712))
	var l []int
	for range 5000 {
		n, e := frame.Wire(some(r))
		if e != api.OK {
			t.Error(e)
		}
		l = append(l, n)
	}
	if slices.Min(l) != api.MinSize || slices.Max(l) != api.MaxSize || api.MinSize != 84 || api.MaxSize != 1542 {
		t.Errorf("sizes from %d to %d", slices.Min(l), slices.Max(l))
	}
}

// R5: equal calls have equal results, and later calls do not change earlier results.
func TestResultsRepeat(t *testing.T) {
	f := api.Frame{Dst: 1, Src: 2, HasTag: true, Prio: 5, Vid: 3, HasSeq: true, Seq: 258, Data: "hello"}
	s, _ := frame.Encode(f)
	first, _ := frame.Decode(s)
	for range 3 {
		checkNone(t, s[1:])
		checkFrame(t, example())
		checkDecode(t, s, f, api.OK)
		checkInvalid(t, api.Frame{Vid: 1})
		checkFrame(t, f)
	}
	if first != f || s != encoding(f) {
		t.Errorf("%s and % x", text(first), s)
	}
}
