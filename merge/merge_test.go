package merge_test

import (
	"encoding/binary"
	"fmt"
	"hash/crc32"
	"math"
	"math/rand"
	"slices"
	"strings"
	"testing"

	"isochron/api"
	"isochron/merge"
)

// CheckOctets are those of a number, least significant first.
func checkOctets(c uint32) string { return string(binary.LittleEndian.AppendUint32(nil, c)) }

// Mark are the check octets of a fragment that ends where s ends.
func mark(s string) string { return checkOctets(crc32.ChecksumIEEE([]byte(s)) ^ 0xFFFF0000) }

func sealed(s string) string { return s + checkOctets(crc32.ChecksumIEEE([]byte(s))) }

func marked(s string) string { return s + mark(s) }

func isSealed(s string) bool { return len(s) >= 4 && sealed(s[:len(s)-4]) == s }

func isMarked(s string) bool { return len(s) >= 4 && marked(s[:len(s)-4]) == s }

func isWhole(s string) bool { return len(s) >= 64 && len(s) <= 1522 && isSealed(s) }

// Allowed says whether cuts are cuts of a whole frame with this length, by the definition.
func allowed(cuts []int, length int) bool {
	for i := 1; i < len(cuts); i++ {
		if cuts[i] <= cuts[i-1] {
			return false
		}
	}
	if len(cuts) > 0 && (cuts[0] < 60 || cuts[len(cuts)-1] > length-64) {
		return false
	}
	for i := 1; i < len(cuts); i++ { // all of them are offsets in the frame here
		if cuts[i]-cuts[i-1] < 60 {
			return false
		}
	}
	return true
}

// ExpectedCut is what Cut must return, by its definition.
func expectedCut(s string, number int, cuts []int) ([]api.Piece, api.Errno) {
	if !isWhole(s) {
		return nil, api.ErrForm
	}
	if number < 0 || number > 3 {
		return nil, api.ErrArg
	}
	if !allowed(cuts, len(s)) {
		return nil, api.ErrCuts
	}
	if len(cuts) == 0 {
		return []api.Piece{{Start: true, Number: number, Data: s}}, api.OK
	}
	last := cuts[len(cuts)-1]
	l := []api.Piece{{Start: true, Number: number, Data: s[:cuts[0]] + mark(s[:cuts[0]])}}
	for i, from := range cuts[:len(cuts)-1] {
		to := cuts[i+1]
		l = append(l, api.Piece{Number: number, Count: i % 4, Data: s[from:to] + mark(s[:to])})
	}
	return append(l, api.Piece{Number: number, Count: (len(cuts) - 1) % 4, Data: s[last:]}), api.OK
}

func isValidState(m api.Merge) bool {
	if !m.On {
		return m.Number == 0 && m.Next == 0 && m.Data == ""
	}
	return m.Number >= 0 && m.Number <= 3 && m.Next >= 0 && m.Next <= 3 && len(m.Data) >= 60 && len(m.Data) <= 1518
}

func isValidPiece(p api.Piece) bool {
	if p.Start && p.Count != 0 {
		return false
	}
	return p.Number >= 0 && p.Number <= 3 && p.Count >= 0 && p.Count <= 3 && len(p.Data) >= 64 && len(p.Data) <= 1522
}

// ExpectedJoin is what Join must return, by its definition.
func expectedJoin(m api.Merge, p api.Piece) (next api.Merge, frame string, e api.Errno) {
	if !isValidState(m) {
		return api.Merge{}, "", api.ErrMerge
	}
	if !isValidPiece(p) {
		return api.Merge{}, "", api.ErrPiece
	}
	d := m.Data + p.Data
	if p.Start {
		d = p.Data
	}
	switch {
	case !p.Start && (!m.On || m.Number != p.Number || m.Next != p.Count):
	case len(d) > 1522:
	case isSealed(d):
		return api.Merge{}, d, api.OK
	case isMarked(d) && p.Start:
		return api.Merge{On: true, Number: p.Number, Next: 0, Data: d[:len(d)-4]}, "", api.OK
	case isMarked(d):
		return api.Merge{On: true, Number: p.Number, Next: []int{1, 2, 3, 0}[m.Next], Data: d[:len(d)-4]}, "", api.OK
	}
	return api.Merge{}, "", api.OK
}

// Short shows a string without most of it.
func short(s string) string { return fmt.Sprintf("% x, %d octets", s[:min(len(s), 40)], len(s)) }

func text(p api.Piece) string {
	return fmt.Sprintf("{Start %t, Number %d, Count %d, Data %s}", p.Start, p.Number, p.Count, short(p.Data))
}

func texts(l []api.Piece) string {
	var all []string
	for _, p := range l {
		all = append(all, text(p))
	}
	return strings.Join(all, "; ")
}

func stateText(m api.Merge) string {
	return fmt.Sprintf("{On %t, Number %d, Next %d, Data %s}", m.On, m.Number, m.Next, short(m.Data))
}

func checkCut(t *testing.T, s string, number int, cuts []int) {
	t.Helper()
	want, wantErr := expectedCut(s, number, cuts)
	l, e := merge.Cut(s, number, cuts)
	if e != wantErr || !slices.Equal(l, want) {
		t.Fatalf("Cut(%s, %d, %d) = %s, %d; want %s, %d", short(s), number, cuts, texts(l), e, texts(want), wantErr)
	}
}

// CheckRefused is for arguments that Cut must refuse with this error.
func checkRefused(t *testing.T, s string, number int, cuts []int, want api.Errno) {
	t.Helper()
	if l, e := merge.Cut(s, number, cuts); e != want || len(l) != 0 {
		t.Fatalf("Cut(%s, %d, %d) = %s, %d; want the error %d", short(s), number, cuts, texts(l), e, want)
	}
	checkCut(t, s, number, cuts)
}

func checkJoin(t *testing.T, m api.Merge, p api.Piece) {
	t.Helper()
	wantNext, wantFrame, wantErr := expectedJoin(m, p)
	next, frame, e := merge.Join(m, p)
	if next != wantNext || frame != wantFrame || e != wantErr {
		t.Fatalf("Join(%s, %s) = %s, %s, %d; want %s, %s, %d", stateText(m), text(p), stateText(next), short(frame), e, stateText(wantNext), short(wantFrame), wantErr)
	}
}

// CheckJoined is for a state and a piece with known results.
func checkJoined(t *testing.T, m api.Merge, p api.Piece, wantNext api.Merge, wantFrame string) {
	t.Helper()
	if next, frame, e := merge.Join(m, p); next != wantNext || frame != wantFrame || e != api.OK {
		t.Fatalf("Join(%s, %s) = %s, %s, %d; want %s, %s", stateText(m), text(p), stateText(next), short(frame), e, stateText(wantNext), short(wantFrame))
	}
	checkJoin(t, m, p)
}

func random(r *rand.Rand, octets int) string {
	l := make([]byte, octets)
	r.Read(l)
	return string(l)
}

// WholeFrame is a whole frame of this length.
func wholeFrame(r *rand.Rand, length int) string { return sealed(random(r, length-4)) }

// SomeCuts are at most so many cuts of a frame with this length.
func someCuts(r *rand.Rand, length, most int) []int {
	var l []int
	for at := 60; len(l) < most && at <= length-64; at += 60 {
		at += r.Intn(1 + min(length-64-at, []int{0, 1, 100, 2000}[r.Intn(4)]))
		l = append(l, at)
	}
	return l
}

func cutOf(t *testing.T, s string, number int, cuts ...int) []api.Piece {
	t.Helper()
	l, e := merge.Cut(s, number, cuts)
	if e != api.OK {
		t.Fatalf("Cut(%s, %d, %d): %d", short(s), number, cuts, e)
	}
	return l
}

// Example is the frame of the chapter's examples.
func example() string {
	var l []byte
	for i := range 0x82 {
		l = append(l, byte(i))
	}
	return sealed(string(l))
}

// Ints are edges of the numbers in pieces and states.
var ints = []int{math.MinInt, math.MinInt + 1, -5, -4, -1, 0, 1, 2, 3, 4, 5, 7, 8, 256, 1 << 32, math.MaxInt}

// P8.1: the examples.
func TestCutExamples(t *testing.T) {
	s := example()
	want := []api.Piece{{Start: true, Number: 2, Data: s[:60] + mark(s[:60])}, {Number: 2, Count: 0, Data: s[60:]}}
	if l, e := merge.Cut(s, 2, []int{60}); e != api.OK || !slices.Equal(l, want) || len(l[0].Data) != 64 || len(l[1].Data) != 74 {
		t.Errorf("%s, %d", texts(l), e)
	}
	checkRefused(t, s, 0, []int{60, 70}, api.ErrCuts)
	checkRefused(t, s, 0, []int{71}, api.ErrCuts)
	checkRefused(t, s, 4, nil, api.ErrArg)
	checkRefused(t, strings.Repeat("\x00", 134), 0, nil, api.ErrForm)
	checkCut(t, s, 0, []int{70})
}

// P8.1: strings of all lengths that matter, sealed and not.
func TestCutFrames(t *testing.T) {
	r := rand.New(rand.NewSource(80))
	for length := range 1700 {
		if length >= 300 && length < 1400 {
			continue
		}
		body := random(r, length)
		if length < 64 || length > 1522 {
			checkRefused(t, body, 0, nil, api.ErrForm)
		}
		checkCut(t, body, 0, nil)
		checkRefused(t, marked(body), 1, nil, api.ErrForm)
		s := sealed(body)
		checkCut(t, s, 2, nil)
		checkCut(t, s, 2, []int{})
		checkCut(t, s, 3, []int{60})
		checkRefused(t, s+"\x00", 0, nil, api.ErrForm)
		checkRefused(t, s[1:], 0, nil, api.ErrForm)
		checkRefused(t, body+"\x00\x00\x00\x00", 0, nil, api.ErrForm)
		at := r.Intn(len(s))
		checkRefused(t, s[:at]+string([]byte{s[at] ^ 1<<r.Intn(8)})+s[at+1:], 0, nil, api.ErrForm)
		if len(s) < 64 || len(s) > 1522 {
			checkRefused(t, s, 0, nil, api.ErrForm)
			continue
		}
		if l := cutOf(t, s, 0); len(l) != 1 || l[0] != (api.Piece{Start: true, Data: s}) {
			t.Fatalf("%s", texts(l))
		}
	}
	checkRefused(t, "", 0, nil, api.ErrForm)
	checkRefused(t, sealed(""), 0, nil, api.ErrForm)
	checkRefused(t, sealed(random(r, 1<<20)), 0, []int{60}, api.ErrForm)
}

// P8.1: all numbers at the edges.
func TestCutNumbers(t *testing.T) {
	s := example()
	for _, number := range ints {
		for _, cuts := range [][]int{nil, {60}, {70}, {71}} {
			checkCut(t, s, number, cuts)
			if number < 0 || number > 3 {
				checkRefused(t, s, number, cuts, api.ErrArg)
			}
		}
	}
}

// P8.1: one cut, at all offsets and beyond them.
func TestCutOnce(t *testing.T) {
	r := rand.New(rand.NewSource(81))
	for _, length := range []int{64, 65, 100, 119, 120, 121, 122, 123, 124, 125, 126, 127, 128, 184, 200, 300, 1522} {
		s := wholeFrame(r, length)
		found := 0
		for at := -3; at < length+4; at++ {
			checkCut(t, s, 1, []int{at})
			if _, e := merge.Cut(s, 1, []int{at}); e == api.OK {
				found++
			}
		}
		if want := max(0, length-123); found != want {
			t.Errorf("%d cuts of %d octets; want %d", found, length, want)
		}
		for _, at := range ints {
			checkCut(t, s, 1, []int{at})
		}
	}
}

// P8.1: two cuts, at all pairs of offsets.
func TestCutTwice(t *testing.T) {
	r := rand.New(rand.NewSource(82))
	for _, length := range []int{124, 183, 184, 185, 190, 250} {
		s := wholeFrame(r, length)
		for first := -1; first <= length; first++ {
			for second := -1; second <= length; second++ {
				checkCut(t, s, 0, []int{first, second})
			}
		}
	}
	checkRefused(t, wholeFrame(r, 183), 0, []int{60, 119}, api.ErrCuts)
	checkRefused(t, wholeFrame(r, 183), 0, []int{60, 120}, api.ErrCuts)
	cutOf(t, wholeFrame(r, 184), 0, 60, 120)
}

// P8.1: three cuts of which any may be far out of range, so that their differences are no ints.
func TestCutFarOffsets(t *testing.T) {
	s := wholeFrame(rand.New(rand.NewSource(83)), 400)
	l := []int{math.MinInt, math.MinInt + 59, math.MinInt + 60, math.MinInt + 400, -60, 0, 59, 60, 120, 180, 240, 336, 337, 1 << 32, math.MaxInt - 60, math.MaxInt - 59, math.MaxInt}
	for _, a := range l {
		for _, b := range l {
			for _, c := range l {
				checkCut(t, s, 0, []int{a, b, c})
			}
		}
	}
}

// P8.1: as many cuts as possible, and too many; the Counts.
func TestCutManyTimes(t *testing.T) {
	r := rand.New(rand.NewSource(84))
	s := wholeFrame(r, 1522)
	var cuts []int
	for at := 60; at <= 1522-64; at += 60 {
		cuts = append(cuts, at)
		l := cutOf(t, s, 3, cuts...)
		checkCut(t, s, 3, cuts)
		var counts []int
		for i, p := range l {
			if p.Start != (i == 0) || p.Number != 3 {
				t.Errorf("piece %d: %s", i, text(p))
			}
			counts = append(counts, p.Count)
		}
		if want := []int{0, 0, 1, 2, 3, 0, 1, 2, 3, 0, 1, 2, 3, 0, 1, 2, 3, 0, 1, 2, 3, 0, 1, 2, 3}; !slices.Equal(counts, want[:len(cuts)+1]) {
			t.Errorf("counts %d", counts)
		}
	}
	if len(cuts) != 24 {
		t.Errorf("%d cuts", len(cuts))
	}
	checkRefused(t, s, 3, append(cuts, 1500), api.ErrCuts)
	checkRefused(t, s, 3, append(cuts, 1440), api.ErrCuts)
	var dense []int
	for at := range 1522 {
		dense = append(dense, at)
	}
	checkRefused(t, s, 3, dense, api.ErrCuts)
	checkRefused(t, s, 3, dense[60:], api.ErrCuts)
}

// P8.1 and P8.2: some frames and some cuts of them; all pieces are valid.
func TestCutSomeFrames(t *testing.T) {
	r := rand.New(rand.NewSource(85))
	for range 3000 {
		s := wholeFrame(r, 64+r.Intn(1459))
		cuts := someCuts(r, len(s), 24)
		number := r.Intn(4)
		checkCut(t, s, number, cuts)
		for _, p := range cutOf(t, s, number, cuts...) {
			if e := merge.CheckPiece(p); e != api.OK {
				t.Fatalf("CheckPiece(%s) = %d", text(p), e)
			}
		}
		if len(cuts) > 0 {
			i := r.Intn(len(cuts))
			cuts[i] += []int{-61, -60, -59, -1, 1, 59, 60, 61}[r.Intn(8)]
			checkCut(t, s, number, cuts)
		}
	}
}

// P8.1 and R2: the first error counts.
func TestCutErrors(t *testing.T) {
	s, bad := example(), example()[1:]
	checkRefused(t, bad, 4, []int{0}, api.ErrForm)
	checkRefused(t, bad, 0, []int{0}, api.ErrForm)
	checkRefused(t, bad, 4, nil, api.ErrForm)
	checkRefused(t, s, 4, []int{0}, api.ErrArg)
	checkRefused(t, s, -1, []int{60, 60}, api.ErrArg)
	checkRefused(t, s, 0, []int{0}, api.ErrCuts)
}

// R3 and R4: the cuts are not changed, nor what is behind them; no cuts are no cuts.
func TestCutKeepsCuts(t *testing.T) {
	s := wholeFrame(rand.New(rand.NewSource(86)), 500)
	all := []int{60, 130, 200, 7, 8, 9}
	for n := range 4 {
		first := cutOf(t, s, 1, all[:n]...)
		want, _ := expectedCut(s, 1, all[:n])
		checkCut(t, s, 2, all[:3])
		checkCut(t, s, 2, all[:n])
		if !slices.Equal(all, []int{60, 130, 200, 7, 8, 9}) || !slices.Equal(first, want) {
			t.Fatalf("%d, %s", all, texts(first))
		}
	}
	if a, b := cutOf(t, s, 1), cutOf(t, s, 1, []int{}...); !slices.Equal(a, b) || len(a) != 1 {
		t.Errorf("%s and %s", texts(a), texts(b))
	}
}

// Lengths of Data are those around the limits of pieces and states.
var lengths = []int{0, 1, 4, 59, 60, 61, 63, 64, 65, 1000, 1517, 1518, 1519, 1521, 1522, 1523, 3000}

// P8.2: states with all fields at and beyond their limits.
func TestCheck(t *testing.T) {
	if e := merge.Check(api.Merge{}); e != api.OK {
		t.Errorf("the zero state: %d", e)
	}
	data := random(rand.New(rand.NewSource(87)), 3000)
	valid := 0
	for _, on := range []bool{false, true} {
		for _, number := range ints {
			for _, next := range ints {
				for _, n := range lengths {
					m := api.Merge{On: on, Number: number, Next: next, Data: data[:n]}
					want := api.ErrMerge
					if isValidState(m) {
						want = api.OK
						valid++
					}
					if e := merge.Check(m); e != want {
						t.Fatalf("Check(%s) = %d; want %d", stateText(m), e, want)
					}
				}
			}
		}
	}
	if valid != 1+4*4*8 {
		t.Errorf("%d states are valid", valid)
	}
}

// P8.2: pieces with all fields at and beyond their limits.
func TestCheckPiece(t *testing.T) {
	if e := merge.CheckPiece(api.Piece{}); e != api.ErrPiece {
		t.Errorf("the zero piece: %d", e)
	}
	data := random(rand.New(rand.NewSource(88)), 3000)
	valid := 0
	for _, start := range []bool{false, true} {
		for _, number := range ints {
			for _, count := range ints {
				for _, n := range lengths {
					p := api.Piece{Start: start, Number: number, Count: count, Data: data[:n]}
					want := api.ErrPiece
					if isValidPiece(p) {
						want = api.OK
						valid++
					}
					if e := merge.CheckPiece(p); e != want {
						t.Fatalf("CheckPiece(%s) = %d; want %d", text(p), e, want)
					}
				}
			}
		}
	}
	if valid != (4+4*4)*8 {
		t.Errorf("%d pieces are valid", valid)
	}
}

// P8.3: the examples.
func TestJoinExamples(t *testing.T) {
	s := example()
	l := cutOf(t, s, 2, 60)
	on := api.Merge{On: true, Number: 2, Data: s[:60]}
	checkJoined(t, api.Merge{}, l[0], on, "")
	checkJoined(t, on, l[1], api.Merge{}, s)
	checkJoined(t, api.Merge{}, l[1], api.Merge{}, "")
	other := l[1]
	other.Number = 3
	checkJoined(t, on, other, api.Merge{}, "")
}

// P8.3 and R2: invalid states and pieces, and both.
func TestJoinErrors(t *testing.T) {
	r := rand.New(rand.NewSource(89))
	s := wholeFrame(r, 200)
	goodState, goodPiece := api.Merge{On: true, Data: s[:60]}, api.Piece{Data: s[60:]}
	badStates := []api.Merge{{Number: 1}, {Next: 1}, {Data: "x"}, {Number: -1}, {On: true}, {On: true, Data: s[:59]}, {On: true, Data: random(r, 1519)}, {On: true, Number: 4, Data: s}, {On: true, Number: -1, Data: s}, {On: true, Next: 4, Data: s}, {On: true, Next: -1, Data: s}, {Data: s}}
	badPieces := []api.Piece{{}, {Start: true}, {Data: s[:63]}, {Start: true, Data: sealed(s[:59])}, {Data: random(r, 1523)}, {Start: true, Data: sealed(random(r, 1519))}, {Start: true, Count: 1, Data: s}, {Number: 4, Data: s}, {Number: -1, Data: s}, {Count: 4, Data: s}, {Count: -1, Data: s}, {Start: true, Number: 4, Data: s}}
	check := func(m api.Merge, p api.Piece, want api.Errno) {
		t.Helper()
		if next, frame, e := merge.Join(m, p); next != (api.Merge{}) || frame != "" || e != want {
			t.Errorf("Join(%s, %s) = %s, %s, %d; want the error %d", stateText(m), text(p), stateText(next), short(frame), e, want)
		}
		checkJoin(t, m, p)
	}
	for _, m := range badStates {
		check(m, goodPiece, api.ErrMerge)
		check(m, api.Piece{Start: true, Data: s}, api.ErrMerge)
		for _, p := range badPieces {
			check(m, p, api.ErrMerge)
			check(goodState, p, api.ErrPiece)
			check(api.Merge{}, p, api.ErrPiece)
		}
	}
	checkJoined(t, goodState, goodPiece, api.Merge{}, s)
}

// P8.3: all states and pieces with some Data: whole frames, fragments and neither, of which some fit together.
func TestJoin(t *testing.T) {
	r := rand.New(rand.NewSource(810))
	begin := random(r, 70)
	middle, end := random(r, 80), random(r, 90)
	states := []api.Merge{{}}
	for _, data := range []string{begin, begin + middle, random(r, 60), marked(begin), wholeFrame(r, 64)} {
		for number := range 4 {
			for next := range 4 {
				states = append(states, api.Merge{On: true, Number: number, Next: next, Data: data})
			}
		}
	}
	all := sealed(begin + middle + end)
	data := []string{all, all[70:], all[150:], all[:100], marked(begin), marked(begin + middle), marked(begin + middle)[70:], marked(begin + middle + end)[70:], marked(begin + middle + end)[150:], marked(middle), sealed(middle), middle, all[:len(all)-1], all[150:] + "\x00", sealed(begin), sealed(begin + middle)[70:]}
	results := map[string]int{}
	for _, m := range states {
		for number := range 4 {
			for _, d := range data {
				checkJoin(t, m, api.Piece{Start: true, Number: number, Data: d})
				for count := range 4 {
					p := api.Piece{Number: number, Count: count, Data: d}
					checkJoin(t, m, p)
					next, frame, _ := merge.Join(m, p)
					results[fmt.Sprintf("%t %t", next.On, frame != "")]++
				}
			}
		}
	}
	if results["true false"] == 0 || results["false true"] == 0 || results["false false"] == 0 || len(results) != 3 {
		t.Errorf("%v", results)
	}
}

// P8.3: d has about 1522 octets, and all lengths of its parts are possible.
func TestJoinLongOctets(t *testing.T) {
	r := rand.New(rand.NewSource(811))
	for length := 1515; length <= 1530; length++ {
		for _, d := range []string{sealed(random(r, length-4)), marked(random(r, length-4)), random(r, length)} {
			for _, at := range []int{60, 61, 500, 1000, length - 65, length - 64} {
				m, p := api.Merge{On: true, Number: 1, Next: 2, Data: d[:at]}, api.Piece{Number: 1, Count: 2, Data: d[at:]}
				checkJoin(t, m, p)
				next, frame, e := merge.Join(m, p)
				if wantFrame, wantOn := isSealed(d) && length <= 1522, isMarked(d) && length <= 1522; (frame == d) != wantFrame || next.On != wantOn || e != api.OK {
					t.Errorf("%d octets, at %d: %s, %s, %d", length, at, stateText(next), short(frame), e)
				}
			}
			checkJoin(t, api.Merge{}, api.Piece{Start: true, Number: 1, Data: d})
			checkJoin(t, api.Merge{On: true, Number: 1, Data: d[:60]}, api.Piece{Start: true, Number: 1, Data: d})
		}
	}
	long := random(r, 1518)
	checkJoined(t, api.Merge{}, api.Piece{Start: true, Data: sealed(long)}, api.Merge{}, sealed(long))
	checkJoined(t, api.Merge{}, api.Piece{Start: true, Data: marked(long)}, api.Merge{On: true, Data: long}, "")
	full := api.Merge{On: true, Data: long}
	for n := 64; n <= 1522; n += 81 {
		checkJoined(t, full, api.Piece{Data: sealed(long + random(r, n-4))[1518:]}, api.Merge{}, "")
		checkJoined(t, full, api.Piece{Data: marked(long + random(r, n-4))[1518:]}, api.Merge{}, "")
	}
}

// P8.3: a start gives up what was received before, even if it would fit.
func TestJoinStartAfterAnything(t *testing.T) {
	r := rand.New(rand.NewSource(812))
	s := wholeFrame(r, 300)
	l := cutOf(t, s, 1, 100, 200)
	for number := range 4 {
		for next := range 4 {
			m := api.Merge{On: true, Number: number, Next: next, Data: s[:100]}
			checkJoined(t, m, api.Piece{Start: true, Number: 1, Data: s}, api.Merge{}, s)
			checkJoined(t, m, l[0], api.Merge{On: true, Number: 1, Data: s[:100]}, "")
			checkJoined(t, m, api.Piece{Start: true, Number: number, Data: s[100:]}, api.Merge{}, "")
			checkJoined(t, m, api.Piece{Start: true, Number: number, Data: l[1].Data}, api.Merge{}, "")
		}
	}
}

// P8.3: a continuation with another Number or another Count, or after no start; one that is a whole frame alone is none.
func TestJoinContinuation(t *testing.T) {
	r := rand.New(rand.NewSource(813))
	body := random(r, 300)
	s := sealed(body)
	for number := range 4 {
		for next := range 4 {
			m := api.Merge{On: true, Number: number, Next: next, Data: s[:100]}
			for n := range 4 {
				for count := range 4 {
					end := api.Piece{Number: n, Count: count, Data: s[100:]}
					middle := api.Piece{Number: n, Count: count, Data: s[100:200] + mark(s[:200])}
					alone := api.Piece{Number: n, Count: count, Data: wholeFrame(r, 64)}
					for _, p := range []api.Piece{end, middle, alone} {
						checkJoined(t, api.Merge{}, p, api.Merge{}, "")
					}
					checkJoined(t, m, alone, api.Merge{}, "")
					if n != number || count != next {
						checkJoined(t, m, end, api.Merge{}, "")
						checkJoined(t, m, middle, api.Merge{}, "")
						continue
					}
					checkJoined(t, m, end, api.Merge{}, s)
					checkJoined(t, m, middle, api.Merge{On: true, Number: number, Next: (next + 1) % 4, Data: s[:200]}, "")
				}
			}
		}
	}
}

// P8.3: octets that are changed anywhere in a piece.
func TestJoinChangedPieces(t *testing.T) {
	s := wholeFrame(rand.New(rand.NewSource(814)), 200)
	l := cutOf(t, s, 0, 64, 128)
	m := api.Merge{}
	for _, p := range l {
		for i := range 8 * len(p.Data) {
			octets := []byte(p.Data)
			octets[i/8] ^= 1 << (i % 8)
			changed := p
			changed.Data = string(octets)
			checkJoined(t, m, changed, api.Merge{}, "")
		}
		m, _, _ = merge.Join(m, p)
	}
}

// SomeState is any valid state; its Data are sometimes those of a frame.
func someState(r *rand.Rand) api.Merge {
	if r.Intn(4) == 0 {
		return api.Merge{}
	}
	data := wholeFrame(r, 64+r.Intn(1459))
	return api.Merge{On: true, Number: r.Intn(4), Next: r.Intn(4), Data: data[:60+r.Intn(min(len(data), 1518)-59)]}
}

// P8.4: the pieces of a frame in order, after any valid state.
func TestPiecesInOrder(t *testing.T) {
	r := rand.New(rand.NewSource(815))
	for range 3000 {
		s := wholeFrame(r, 64+r.Intn(1459))
		number := r.Intn(4)
		cuts := someCuts(r, len(s), r.Intn(25))
		m := someState(r)
		for i, p := range cutOf(t, s, number, cuts...) {
			if i < len(cuts) {
				next := api.Merge{On: true, Number: number, Next: i % 4, Data: s[:cuts[i]]}
				checkJoined(t, m, p, next, "")
				m = next
			} else {
				checkJoined(t, m, p, api.Merge{}, s)
			}
		}
	}
}

// P8.4: all cuts of short frames; and the greatest frame with the most cuts.
func TestPiecesOfAllCuts(t *testing.T) {
	r := rand.New(rand.NewSource(816))
	check := func(s string, cuts ...int) {
		t.Helper()
		m, frame, e := someState(r), "", api.OK
		for i, p := range cutOf(t, s, 3, cuts...) {
			m, frame, e = merge.Join(m, p)
			if want := i == len(cuts); e != api.OK || want != (frame == s) || !want && frame != "" || m.On == want {
				t.Fatalf("%d octets, cuts %d, piece %d: %s, %s, %d", len(s), cuts, i, stateText(m), short(frame), e)
			}
		}
	}
	s := wholeFrame(r, 250)
	for first := 60; first <= 250-64; first++ {
		check(s, first)
		for second := first + 60; second <= 250-64; second++ {
			check(s, first, second)
		}
	}
	var cuts []int
	for at := 60; at <= 1522-64; at += 60 {
		cuts = append(cuts, at)
	}
	check(wholeFrame(r, 1522), cuts...)
}

// Reached are the states that sequences of these pieces lead to from the zero state, and the frames that Join returns on the way.
func reached(t *testing.T, l []api.Piece) (states map[api.Merge]bool, frames map[string]bool) {
	t.Helper()
	states, frames = map[api.Merge]bool{{}: true}, map[string]bool{}
	for work := []api.Merge{{}}; len(work) > 0; work = work[1:] {
		for _, p := range l {
			next, frame, e := merge.Join(work[0], p)
			if e != api.OK || merge.Check(next) != api.OK {
				t.Fatalf("Join(%s, %s) = %s, %d", stateText(work[0]), text(p), stateText(next), e)
			}
			if frame != "" {
				frames[frame] = true
			}
			if !states[next] {
				states[next] = true
				work = append(work, next)
			}
		}
	}
	return states, frames
}

// FourFrames are frames with different numbers; some have equal octets at their begin, so that a fragment of one could be taken for that of another.
func fourFrames(r *rand.Rand) []string {
	common := random(r, 400)
	var l []string
	for range 4 {
		s := common[:r.Intn(401)] + random(r, 60+r.Intn(900))
		l = append(l, sealed(s))
	}
	return l
}

// P8.4: the pieces of four frames, each with at most four continuations, in all sequences: the states that they reach are so few that all of them are looked at.
func TestPiecesInAnyOrder(t *testing.T) {
	r := rand.New(rand.NewSource(817))
	for round := range 150 {
		frames := fourFrames(r)
		var pieces []api.Piece
		waits := 1 // the zero state, and those after all but the last piece of each frame
		for number, s := range frames {
			cuts := someCuts(r, len(s), []int{4, 4, 3, 2, 1, 0}[r.Intn(6)])
			waits += len(cuts)
			pieces = append(pieces, cutOf(t, s, number, cuts...)...)
		}
		states, got := reached(t, pieces)
		if len(states) != waits || len(got) != 4 {
			t.Fatalf("round %d: %d states, %d frames; want %d and 4", round, len(states), len(got), waits)
		}
		for _, s := range frames {
			if !got[s] {
				t.Fatalf("round %d: %s is never returned", round, short(s))
			}
		}
	}
}

// P8.4: random sequences in which pieces are lost, repeated and reordered.
func TestPiecesInSomeOrders(t *testing.T) {
	r := rand.New(rand.NewSource(818))
	returned := 0
	for range 300 {
		frames := fourFrames(r)
		var l []api.Piece
		for number, s := range frames {
			for _, p := range cutOf(t, s, number, someCuts(r, len(s), 4)...) {
				for range []int{0, 1, 1, 1, 1, 1, 1, 2}[r.Intn(8)] {
					l = append(l, p)
				}
			}
		}
		for range r.Intn(1 + len(l)/4) {
			i, j := r.Intn(len(l)), r.Intn(len(l))
			l[i], l[j] = l[j], l[i]
		}
		m, frame := api.Merge{}, ""
		for _, p := range l {
			checkJoin(t, m, p)
			m, frame, _ = merge.Join(m, p)
			if frame != "" && !slices.Contains(frames, frame) {
				t.Fatalf("%s is none of the frames", short(frame))
			}
			if frame != "" {
				returned++
			}
		}
	}
	if returned < 100 {
		t.Errorf("%d frames are returned", returned)
	}
}

// SomePiece is any piece; often one that a state waits for, and often with check octets that fit.
func somePiece(r *rand.Rand, m api.Merge) api.Piece {
	p := api.Piece{Start: r.Intn(3) == 0, Number: r.Intn(4), Count: r.Intn(4)}
	if r.Intn(4) > 0 {
		p.Number, p.Count = m.Number, m.Next
	}
	body := random(r, []int{60, 61, 100, 1000, 1400, 1518, 1519, r.Intn(60), r.Intn(1600)}[r.Intn(9)])
	before := m.Data
	if p.Start {
		before, p.Count = "", 0
	}
	p.Data = []string{body, sealed(body), marked(body), sealed(before + body)[len(before):], sealed(before + body)[len(before):], marked(before + body)[len(before):], marked(before + body)[len(before):]}[r.Intn(7)]
	return p
}

// P8.4: what is returned for arbitrary pieces is a whole frame, and every next state is valid.
func TestArbitraryPieces(t *testing.T) {
	r := rand.New(rand.NewSource(819))
	refused, returned, kept := 0, 0, 0
	m, frame, e := api.Merge{}, "", api.OK
	for range 20000 {
		if r.Intn(10) == 0 {
			m = someState(r)
		}
		p := somePiece(r, m)
		checkJoin(t, m, p)
		m, frame, e = merge.Join(m, p)
		if e != api.OK {
			refused++
		}
		if merge.Check(m) != api.OK || frame != "" && !isWhole(frame) {
			t.Fatalf("%s, %s", stateText(m), short(frame))
		}
		if frame != "" {
			returned++
		}
		if m.On {
			kept++
		}
	}
	if refused < 1000 || returned < 1000 || kept < 1000 {
		t.Errorf("%d pieces are refused, %d frames are returned, %d states are not zero", refused, returned, kept)
	}
}

// R5: equal calls have equal results, and later calls do not change earlier results.
func TestResultsRepeat(t *testing.T) {
	s := wholeFrame(rand.New(rand.NewSource(820)), 300)
	l := cutOf(t, s, 1, 100, 200)
	one, _, _ := merge.Join(api.Merge{}, l[0])
	two, _, _ := merge.Join(one, l[1])
	_, frame, _ := merge.Join(two, l[2])
	for range 3 {
		checkCut(t, s, 2, []int{60})
		checkCut(t, s, 1, []int{100, 200})
		checkJoin(t, one, l[0])
		checkJoined(t, two, l[2], api.Merge{}, s)
		checkJoined(t, one, l[1], two, "")
		checkJoined(t, one, l[2], api.Merge{}, "")
	}
	want, _ := expectedCut(s, 1, []int{100, 200})
	if !slices.Equal(l, want) || one != (api.Merge{On: true, Number: 1, Data: s[:100]}) || two != (api.Merge{On: true, Number: 1, Next: 1, Data: s[:200]}) || frame != s {
		t.Errorf("%s; %s; %s; %s", texts(l), stateText(one), stateText(two), short(frame))
	}
}
