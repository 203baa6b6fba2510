package tests

import (
	"math"
	"slices"
	"testing"

	"loop.example/g00450/impl"
)

const desksOfLine = 6

func line(roads []impl.Road, hops ...impl.Hop) impl.Line {
	return impl.Line{Hops: hops, Roads: roads}
}

func newLine(t *testing.T, caps []int64, roads int64) impl.Line {
	t.Helper()
	l, is := impl.NewLine(caps, roads)
	if !is {
		t.Fatalf("NewLine(%v, %d) says no", caps, roads)
	}
	return l
}

func sameLine(a, b impl.Line) bool {
	return slices.EqualFunc(a.Hops, b.Hops, sameHop) && slices.Equal(a.Roads, b.Roads)
}

func isZeroLine(l impl.Line) bool {
	return sameLine(l, impl.Line{})
}

// lineOkByWords asks one thing of the document behind the other.
func lineOkByWords(l impl.Line) bool {
	is := len(l.Hops) == 3 && roadsOkByWords(l.Roads)
	for k, h := range l.Hops {
		is = is && hopOkByWords(h)
		for _, letter := range h.Way {
			if k == 1 {
				is = is && isBetween(letter.Road, 0, int64(len(l.Roads))-1)
			} else {
				is = is && letter.Road == 0
			}
		}
	}
	return is
}

// capsOf are the six Caps in the order in which NewLine takes them.
func capsOf(l impl.Line) []int64 {
	var caps []int64
	for _, h := range l.Hops {
		caps = append(caps, h.Giver.Cap, h.Taker.Cap)
	}
	return caps
}

func sumOf(list []int64) int64 {
	sum := int64(0)
	for _, n := range list {
		sum += n
	}
	return sum
}

// newLineByWords writes all six desks and all roads out.
func newLineByWords(caps []int64, roads int64) impl.Line {
	all := []impl.Road{openRoad(1, 0, 0), openRoad(2, 0, 0), openRoad(3, 0, 0), openRoad(4, 0, 0)}
	return line(all[:roads],
		hop(giver(0, "", caps[0], 0), taker(0, "", caps[1], -1)),
		hop(giver(0, "", caps[2], 0), taker(0, "", caps[3], -1)),
		hop(giver(0, "", caps[4], 0), taker(0, "", caps[5], -1)))
}

// checkLine holds the three calls that are given a Line against the document's words.
func checkLine(t *testing.T, l impl.Line) {
	t.Helper()
	is, room, desk := lineOkByWords(l), int64(-1), ""
	if is {
		room, desk = sumOf(capsOf(l)), l.Hops[2].Taker.Bytes
	}
	checkLineTells(t, l, is, room, desk)
}

func checkLineTells(t *testing.T, l impl.Line, is bool, room int64, desk string) {
	t.Helper()
	if got := impl.LineOk(l); got != is {
		t.Fatalf("LineOk of %#v is %v", l, got)
	}
	if got := impl.RoomOf(l); got != room {
		t.Fatalf("RoomOf of %#v is %d, not %d", l, got, room)
	}
	if got := impl.AtDesk(l); got != desk {
		t.Fatalf("AtDesk of %#v is %q, not %q", l, got, desk)
	}
}

func checkLineRefused(t *testing.T, l impl.Line) {
	t.Helper()
	checkLineTells(t, l, false, -1, "")
}

func checkNoNewLine(t *testing.T, caps []int64, roads int64) {
	t.Helper()
	if l, is := impl.NewLine(caps, roads); is || !isZeroLine(l) {
		t.Fatalf("NewLine(%v, %d) is %#v, %v", caps, roads, l, is)
	}
}

// capsToTry have one Cap at all desks, another one at each of them, and many in no order.
func capsToTry() [][]int64 {
	list := [][]int64{{20, 10, 10, 10, 10, 20}, {1, 2, 3, 4, 5, 6}, {400, 399, 398, 397, 396, 395}, {1, 400, 1, 400, 1, 400}, {400, 1, 400, 1, 400, 1}, {1, 2, 4, 8, 16, 32}}
	for _, n := range []int64{1, 2, 40, 200, 399, 400} {
		list = append(list, slices.Repeat([]int64{n}, desksOfLine))
	}
	seed := steps(13)
	for range 500 {
		var caps []int64
		for range desksOfLine {
			caps = append(caps, 1+seed.below(400))
		}
		list = append(list, caps)
	}
	return list
}

func noCaps() []int64 {
	return []int64{0, -1, -2, -400, 401, 402, 801, lastPlace, round, round + 1, -round + 1, math.MinInt64, math.MinInt64 + 1, math.MaxInt64 - 1, math.MaxInt64}
}

func noCountsOfRoads() []int64 {
	return []int64{0, -1, -2, -4, 5, 6, 8, 256, 257, lastPlace, round, round + 1, round + 4, -round + 1, math.MinInt64, math.MinInt64 + 1, math.MaxInt64 - 1, math.MaxInt64}
}

func TestANewLineIsRight(t *testing.T) {
	for _, caps := range capsToTry() {
		for roads := int64(1); roads <= 4; roads++ {
			l := newLine(t, caps, roads)
			if !impl.LineOk(l) || !lineOkByWords(l) || !sameLine(l, newLineByWords(caps, roads)) {
				t.Fatalf("NewLine(%v, %d) is %#v", caps, roads, l)
			}
			if len(l.Hops) != 3 || !slices.Equal(capsOf(l), caps) || int64(len(l.Roads)) != roads {
				t.Fatalf("NewLine(%v, %d) is %#v", caps, roads, l)
			}
			checkLineTells(t, l, true, caps[0]+caps[1]+caps[2]+caps[3]+caps[4]+caps[5], "")
		}
	}
}

func TestANewLineIsEmpty(t *testing.T) {
	for _, caps := range capsToTry() {
		for k, h := range newLine(t, caps, 3).Hops {
			if len(h.Way) != 0 || len(h.Taker.Parts) != 0 || h.Giver.Bytes != "" || h.Taker.Bytes != "" || !impl.HopOk(h) {
				t.Fatalf("hop %d of NewLine(%v, 3) is %#v", k, caps, h)
			}
			if h.Giver.End || h.Giver.Done || h.Taker.Ended || h.Taker.End != -1 {
				t.Fatalf("hop %d of NewLine(%v, 3) is at its end: %#v", k, caps, h)
			}
		}
	}
}

func TestNewLineRoads(t *testing.T) {
	caps := []int64{20, 10, 10, 10, 10, 20}
	for roads := int64(1); roads <= 4; roads++ {
		l := newLine(t, caps, roads)
		if int64(len(l.Roads)) != roads || !impl.RoadsOk(l.Roads) {
			t.Fatalf("NewLine of %d roads has %v", roads, l.Roads)
		}
		for k, one := range l.Roads {
			if one != openRoad(int64(k)+1, 0, 0) {
				t.Errorf("of %d roads, road %d is %v", roads, k, one)
			}
		}
	}
	for _, roads := range noCountsOfRoads() {
		checkNoNewLine(t, caps, roads)
	}
}

func TestNewLineOfEachCapAtEachDesk(t *testing.T) {
	for _, other := range []int64{1, 20, 400} {
		for desk := range desksOfLine {
			caps := slices.Repeat([]int64{other}, desksOfLine)
			for _, n := range []int64{1, 2, 399, 400} {
				caps[desk] = n
				if l := newLine(t, caps, 2); !sameLine(l, newLineByWords(caps, 2)) || impl.RoomOf(l) != 5*other+n {
					t.Fatalf("NewLine(%v, 2) is %#v", caps, l)
				}
			}
			for _, n := range noCaps() {
				caps[desk] = n
				for roads := int64(0); roads <= 5; roads++ {
					checkNoNewLine(t, caps, roads)
				}
			}
		}
	}
}

func TestNewLineCountsCaps(t *testing.T) {
	for _, n := range []int64{1, 10, 400} {
		for count := range 30 {
			caps := slices.Repeat([]int64{n}, count)
			for roads := int64(1); roads <= 4; roads++ {
				if l, is := impl.NewLine(caps, roads); is != (count == 6) || isZeroLine(l) == is {
					t.Fatalf("NewLine(%v, %d) is %#v, %v", caps, roads, l, is)
				}
			}
		}
	}
	for _, caps := range [][]int64{nil, {}, slices.Repeat([]int64{10}, 5), slices.Repeat([]int64{10}, 7), slices.Repeat([]int64{10}, 12), slices.Repeat([]int64{10}, 10000)} {
		checkNoNewLine(t, caps, 2)
	}
}

func TestNewLineOfTwoWrongAtOnce(t *testing.T) {
	for _, roads := range noCountsOfRoads() {
		for count := range 9 {
			checkNoNewLine(t, slices.Repeat([]int64{10}, count), roads)
			checkNoNewLine(t, slices.Repeat([]int64{401}, count), roads)
		}
	}
	for one := range desksOfLine {
		for other := range desksOfLine {
			for _, n := range noCaps() {
				caps := slices.Repeat([]int64{10}, desksOfLine)
				caps[one], caps[other] = n, 0
				checkNoNewLine(t, caps, 2)
			}
		}
	}
	// Two that are out of range may have a sum that is not.
	checkNoNewLine(t, []int64{-10, 30, 10, 10, 10, 20}, 2)
	checkNoNewLine(t, []int64{math.MinInt64, math.MaxInt64, 1, 10, 10, 10}, 2)
}

// alongRoads has the Letters on as many roads as are asked; a road that is out of range stays, so that what is wrong by it stays wrong.
func alongRoads(h impl.Hop, roads int64) impl.Hop {
	h.Way = slices.Clone(h.Way)
	for k := range h.Way {
		if isBetween(h.Way[k].Road, 0, 3) {
			h.Way[k].Road %= roads
		}
	}
	return h
}

// lineAlong is of these hops, with the Letters on roads that lead along each.
func lineAlong(roads []impl.Road, first, middle, last impl.Hop) impl.Line {
	return line(roads, alongRoads(first, 1), alongRoads(middle, int64(len(roads))), alongRoads(last, 1))
}

// fullHops have something at each desk, Parts, and Letters on all four roads under way.
func fullHops() []impl.Hop {
	return []impl.Hop{
		hop(giver(7, "hijkl", 9, 10), taker(7, "efg", 9, 12, part(8, "i"), part(10, "kl")), manyLetters(20)...),
		hop(endedGiver(4, "efg", 11, 7), taker(5, "de", 13, -1, part(6, "g")), manyLetters(30)...),
		hop(giver(2, "cd", 17, 3), taker(4, "cd", 19, -1, part(5, "f"), part(7, "h")), manyLetters(7)...),
	}
}

func fullLine(roads []impl.Road) impl.Line {
	h := fullHops()
	return lineAlong(roads, h[0], h[1], h[2])
}

// rightLines have each right hop at each place, with one road to four.
func rightLines() []impl.Line {
	full := fullHops()
	var list []impl.Line
	for k, h := range rightHops() {
		l := manyRoads(1 + k%4)
		list = append(list, lineAlong(l, h, full[1], full[2]), lineAlong(l, full[0], h, full[2]), lineAlong(l, full[0], full[1], h), lineAlong(l, h, h, h))
	}
	for _, l := range rightRoads() {
		list = append(list, fullLine(l))
	}
	return list
}

func TestRightLines(t *testing.T) {
	for _, l := range rightLines() {
		checkLineTells(t, l, true, sumOf(capsOf(l)), l.Hops[2].Taker.Bytes)
		if !lineOkByWords(l) {
			t.Fatalf("by the words it is wrong: %#v", l)
		}
	}
}

func TestLineOkCountsHops(t *testing.T) {
	right := newLine(t, []int64{20, 10, 10, 10, 10, 20}, 2)
	for n := range 20 {
		l := line(right.Roads, slices.Repeat(right.Hops[:1], n)...)
		if n == 3 {
			checkLineTells(t, l, true, 90, "")
		} else {
			checkLineRefused(t, l)
		}
	}
	full := fullLine(manyRoads(4))
	for _, hops := range [][]impl.Hop{nil, {}, full.Hops[:1], full.Hops[:2], full.Hops[1:], slices.Concat(full.Hops, full.Hops[:1]), slices.Concat(full.Hops, full.Hops), slices.Concat(full.Hops, []impl.Hop{{}}), {{}}, {{}, {}}, {{}, {}, {}}} {
		checkLineRefused(t, line(full.Roads, hops...))
	}
	checkLineRefused(t, impl.Line{})
	checkLineRefused(t, impl.Line{Hops: full.Hops})
	checkLineRefused(t, impl.Line{Roads: full.Roads})
}

// lettersOfEachKind are right ones of each kind, all on this road.
func lettersOfEachKind(road int64) []impl.Letter {
	return []impl.Letter{forth(road, 7, "hi", false), forth(road, 7, "hi", true), forth(road, 12, "", true), back(road, 7, 12, false), back(road, 12, 12, true), back(road, 0, 0, false)}
}

// isAlong tells whether the document wants a Letter of this hop on this road.
func isAlong(hop int, road int64, roads int) bool {
	if hop == 1 {
		return road >= 0 && road < int64(roads)
	}
	return road == 0
}

func checkRoadOfLetter(t *testing.T, l impl.Line, hop int, road int64) {
	t.Helper()
	if isAlong(hop, road, len(l.Roads)) {
		checkLineTells(t, l, true, sumOf(capsOf(l)), l.Hops[2].Taker.Bytes)
	} else {
		checkLineRefused(t, l)
	}
}

func TestLettersGoAlongRoadsThatAreThere(t *testing.T) {
	for count := 1; count <= mostRoads; count++ {
		for k := range 3 {
			for _, road := range append(noRoads(), 0, 1, 2, 3) {
				for _, letter := range lettersOfEachKind(road) {
					alone := newLine(t, []int64{20, 10, 10, 10, 10, 20}, int64(count))
					alone.Hops[k].Way = []impl.Letter{letter}
					checkRoadOfLetter(t, alone, k, road)
					for _, at := range []int{0, 1, 14, 28, 29} {
						among := fullLine(manyRoads(count))
						among.Hops[k].Way = slices.Repeat(lettersOfEachKind(0), 5)
						among.Hops[k].Way[at] = letter
						checkRoadOfLetter(t, among, k, road)
					}
				}
			}
		}
	}
}

// A road may be closed while something is under way on it: it is there all the same.
func TestLettersMayBeOnClosedRoads(t *testing.T) {
	for count := 1; count <= mostRoads; count++ {
		for bits := range 1 << count {
			checkLineTells(t, fullLine(shutAndOpen(count, bits)), true, 9+9+11+13+17+19, "cd")
		}
	}
}

// With one road less the Letters of the last one have none; of the other hops it does not matter how many there are.
func TestARoadLess(t *testing.T) {
	for count := 2; count <= mostRoads; count++ {
		l := fullLine(manyRoads(count))
		checkLineTells(t, l, true, 78, "cd")
		l.Roads = l.Roads[:count-1]
		checkLineRefused(t, l)
		l.Hops[1] = alongRoads(l.Hops[1], int64(count)-1)
		checkLineTells(t, l, true, 78, "cd")
	}
}

func TestOneWrongHop(t *testing.T) {
	for _, wrong := range wrongHops() {
		for k := range 3 {
			l := fullLine(manyRoads(4))
			l.Hops[k] = alongRoads(wrong, 1)
			checkLineRefused(t, l)
		}
		checkLineRefused(t, lineAlong(manyRoads(4), wrong, wrong, wrong))
	}
}

// Each desk alone is wrong, with all else as NewLine makes it.
func TestOneWrongDesk(t *testing.T) {
	for k := range 3 {
		for _, wrong := range wrongGivers() {
			l := newLine(t, []int64{20, 10, 10, 10, 10, 20}, 2)
			l.Hops[k].Giver = wrong
			checkLineRefused(t, l)
		}
		for _, wrong := range wrongTakers() {
			l := newLine(t, []int64{20, 10, 10, 10, 10, 20}, 2)
			l.Hops[k].Taker = wrong
			checkLineRefused(t, l)
		}
		for _, wrong := range noCaps() {
			l := newLine(t, []int64{20, 10, 10, 10, 10, 20}, 2)
			l.Hops[k].Giver.Cap = wrong
			checkLineRefused(t, l)
			l.Hops[k].Giver.Cap, l.Hops[k].Taker.Cap = 10, wrong
			checkLineRefused(t, l)
		}
	}
}

func TestTooManyLetters(t *testing.T) {
	for k := range 3 {
		for n := range 40 {
			l := newLine(t, []int64{20, 10, 10, 10, 10, 20}, 2)
			l.Hops[k].Way = slices.Repeat([]impl.Letter{back(0, 0, 9, false)}, n)
			if n <= 30 {
				checkLineTells(t, l, true, 80, "")
			} else {
				checkLineRefused(t, l)
			}
		}
	}
}

func TestWrongRoadsOfALine(t *testing.T) {
	full := fullLine(manyRoads(1))
	empty := newLine(t, []int64{20, 10, 10, 10, 10, 20}, 2)
	for _, wrong := range wrongRoads() {
		checkLineRefused(t, line(wrong, full.Hops...))
		checkLineRefused(t, line(wrong, empty.Hops...))
	}
}

func TestLinesByWords(t *testing.T) {
	hops := []impl.Hop{{}, hop(giver(0, "", 1, 0), taker(0, "", 1, -1))}
	for road := range int64(5) {
		hops = append(hops, hop(giver(0, "a", 400, 9), taker(3, "abc", 3, 3), back(road, 0, 9, false)), hop(doneGiver(7, 9, 7), taker(9, "i", 40, -1, part(10, "k")), forth(0, 0, "a", true), forth(road, 0, "a", true)))
	}
	for count := range 6 {
		l := manyRoads(count)
		for _, first := range hops {
			for _, middle := range hops {
				for _, last := range hops {
					checkLine(t, line(l, first, middle, last))
				}
			}
		}
	}
}

func TestRoomOfCountsEachDesk(t *testing.T) {
	caps := []int64{1, 2, 4, 8, 16, 32}
	if got := impl.RoomOf(newLine(t, caps, 1)); got != 63 {
		t.Errorf("RoomOf is %d", got)
	}
	for desk := range desksOfLine {
		more := slices.Clone(caps)
		more[desk] += 100
		if got := impl.RoomOf(newLine(t, more, 4)); got != 163 {
			t.Errorf("where desk %d has more, RoomOf is %d", desk, got)
		}
	}
	if got := impl.RoomOf(newLine(t, slices.Repeat([]int64{1}, 6), 4)); got != 6 {
		t.Errorf("RoomOf of the least Caps is %d", got)
	}
	if got := impl.RoomOf(newLine(t, slices.Repeat([]int64{400}, 6), 1)); got != 2400 {
		t.Errorf("RoomOf of the greatest Caps is %d", got)
	}
	// What lies at the desks takes no room away: the Caps alone count.
	if got := impl.RoomOf(fullLine(manyRoads(4))); got != 78 {
		t.Errorf("RoomOf of a full Line is %d", got)
	}
}

func TestAtDeskOfNamedCases(t *testing.T) {
	for _, c := range []struct {
		name string
		x    impl.Taker
		want string
	}{
		{"no Bytes", taker(7, "", 9, -1), ""},
		{"no Bytes, but Parts", taker(7, "", 9, -1, part(8, "i")), ""},
		{"one", taker(7, "g", 9, -1), "g"},
		{"one of Cap 1", taker(7, "g", 1, -1), "g"},
		{"one, and Parts", taker(7, "g", 9, -1, part(8, "i"), part(9, "j")), "g"},
		{"Cap of them", taker(9, "abcdefghi", 9, -1), "abcdefghi"},
		{"one less than Cap", taker(9, "bcdefghi", 9, -1), "bcdefghi"},
		{"MaxCap of them", taker(400, textFrom(0, 400), 400, -1), textFrom(0, 400)},
		{"every byte", taker(256, everyByte(), 256, 256), everyByte()},
		{"a byte 0", taker(2, "\x00\x00", 9, -1), "\x00\x00"},
		{"at its end", taker(7, "efg", 9, 7), "efg"},
		{"at its end, no Bytes", taker(7, "", 9, 7), ""},
		{"at MaxPlace", taker(lastPlace, "yz", 9, lastPlace), "yz"},
		{"one past Cap", taker(9, "abcdefghi", 8, -1), ""},
		{"one past MaxCap", taker(401, textFrom(0, 401), 401, -1), ""},
		{"more than came", taker(2, "efg", 9, -1), ""},
		{"Ended, but not at its end", impl.Taker{Next: 7, Bytes: "efg", Cap: 9, End: -1, Ended: true}, ""},
	} {
		for count := 1; count <= mostRoads; count++ {
			l := fullLine(manyRoads(count))
			l.Hops[2].Taker = c.x
			if got := impl.AtDesk(l); got != c.want {
				t.Errorf("%s: AtDesk is %q", c.name, got)
			}
			l.Hops[2].Way = []impl.Letter{forth(1, 0, "a", false)}
			if got := impl.AtDesk(l); got != "" {
				t.Errorf("%s, a Letter on no road: AtDesk is %q", c.name, got)
			}
		}
	}
}

// What lies at the other five desks is not at the reader's.
func TestAtDeskIsOfTheLastHopAlone(t *testing.T) {
	l := fullLine(manyRoads(3))
	l.Hops[2].Taker = taker(0, "", 9, -1)
	if got := impl.AtDesk(l); got != "" {
		t.Errorf("AtDesk is %q", got)
	}
	for k := range 3 {
		l := newLine(t, []int64{20, 10, 10, 10, 10, 20}, 2)
		l.Hops[k].Taker, _ = impl.Takes(l.Hops[k].Taker, 0, "hello", false)
		want := []string{"", "", "hello"}[k]
		if got := impl.AtDesk(l); got != want {
			t.Errorf("where the Taker of hop %d has it, AtDesk is %q", k, got)
		}
		l.Hops[k].Giver, _ = impl.Writes(l.Hops[k].Giver, "world")
		if got := impl.AtDesk(l); got != want {
			t.Errorf("where the Giver of hop %d has more, AtDesk is %q", k, got)
		}
	}
}

// A route has a Line between a text and what was read of it. A careful one says Done only where it may.
type route struct {
	l       impl.Line
	text    string
	written int64
	read    string
	careful bool
}

func (r *route) writes(n int64) {
	to := min(int64(len(r.text)), r.written+n)
	g, count := impl.Writes(r.l.Hops[0].Giver, r.text[r.written:to])
	r.l.Hops[0].Giver, r.written = g, r.written+count
	if r.written == int64(len(r.text)) {
		r.l.Hops[0].Giver, _ = impl.Ends(r.l.Hops[0].Giver)
	}
}

func (r *route) reads(n int64) {
	x, bytes := impl.TakenAway(r.l.Hops[2].Taker, n)
	r.l.Hops[2].Taker, r.read = x, r.read+bytes
}

func (r *route) pumps(house int64, n int64) {
	h := r.l.Hops
	h[house].Taker, h[house+1].Giver, _ = impl.Pumps(h[house].Taker, h[house+1].Giver, n)
}

func (r *route) roadOf(k int64, seed *steps) int64 {
	if k != 1 {
		return 0
	}
	return seed.below(int64(len(r.l.Roads)))
}

func (r *route) saysDone(k int64, seed *steps) bool {
	return seed.below(2) == 0 && (!r.careful || impl.MayTell(r.l, k))
}

// does takes a step that keeps to the roads that are there.
func (r *route) does(seed *steps) {
	k := seed.below(3)
	h := r.l.Hops[k]
	road, letter := r.roadOf(k, seed), seed.below(int64(len(h.Way))+1)
	switch seed.below(11) {
	case 0:
		r.writes(seed.below(60))
	case 1:
		r.reads(seed.below(int64(len(r.l.Hops[2].Taker.Bytes)) + 1))
	case 2, 3:
		r.l.Hops[k], _ = impl.Sends(h, road, h.Giver.Base+seed.below(int64(len(h.Giver.Bytes))+1), seed.below(41))
	case 4:
		r.l.Hops[k], _ = impl.Tells(h, road, r.saysDone(k, seed))
	case 5, 6, 7:
		r.l.Hops[k], _ = impl.Arrives(h, letter)
	case 8:
		r.l.Hops[k], _ = impl.Loses(h, letter)
	case 9:
		r.l.Hops[k], _ = impl.Doubles(h, letter)
	case 10:
		r.pumps(seed.below(2), seed.below(mostPumped+1))
		r.l.Roads, _ = impl.Turn(r.l.Roads, seed.below(4), seed.below(2) == 0)
	}
}

// stands asks for what holds behind each step: the Line is right, has the room that it had, and what is at the desk comes next.
func (r *route) stands(t *testing.T, room int64) {
	t.Helper()
	came := r.l.Hops[2].Taker.Next
	checkLineTells(t, r.l, true, room, r.text[len(r.read):came])
	if r.read != r.text[:len(r.read)] || !lineOkByWords(r.l) {
		t.Fatalf("of %d bytes was read %q: %#v", r.written, r.read, r.l)
	}
}

func TestALineStaysRightFromItsBeginningToItsEnd(t *testing.T) {
	for _, caps := range [][]int64{{1, 1, 1, 1, 1, 1}, {20, 10, 10, 10, 10, 20}, {400, 400, 400, 400, 400, 400}, {7, 400, 3, 5, 400, 1}, {400, 1, 400, 1, 400, 9}} {
		for roads := int64(1); roads <= 4; roads++ {
			seed := steps(roads)
			r := &route{l: newLine(t, caps, roads), text: textFrom(0, 60)}
			for step := 0; len(r.read) < len(r.text); step++ {
				if step > 200000 {
					t.Fatalf("it never comes: %#v", r.l)
				}
				r.does(&seed)
				r.stands(t, sumOf(caps))
			}
		}
	}
}

// someHop is mostly wrong, in some field or in all.
func someHop(seed *steps) impl.Hop {
	h := fullHops()[seed.below(3)]
	if seed.below(3) == 0 {
		h.Giver = impl.Giver{Base: someNumber(seed), Bytes: someBytes(seed), Cap: someNumber(seed), Limit: someNumber(seed), End: seed.below(2) == 0, Done: seed.below(2) == 0}
	}
	if seed.below(3) == 0 {
		h.Taker = impl.Taker{Next: someNumber(seed), Bytes: someBytes(seed), Cap: someNumber(seed), End: someNumber(seed), Ended: seed.below(2) == 0}
		h.Taker.Parts = []impl.Part{part(someNumber(seed), someBytes(seed))}[:seed.below(2)]
	}
	h.Way = h.Way[:seed.below(int64(len(h.Way))+1)]
	if seed.below(2) == 0 {
		h.Way = wayAnd(h.Way, impl.Letter{Back: seed.below(2) == 0, Road: someNumber(seed), At: someNumber(seed), Bytes: someBytes(seed), End: seed.below(2) == 0, Limit: someNumber(seed), Done: seed.below(2) == 0})
	}
	return alongRoads(h, 1+seed.below(4))
}

func someLine(seed *steps) impl.Line {
	l := line(manyRoads(int(seed.below(6))))
	for range []int{3, 3, 3, 3, 0, 1, 2, 4}[seed.below(8)] {
		l.Hops = append(l.Hops, someHop(seed))
	}
	if len(l.Roads) > 0 && seed.below(3) == 0 {
		l.Roads[seed.below(int64(len(l.Roads)))] = impl.Road{Open: seed.below(2) == 0, Cost: someNumber(seed), Sent: someNumber(seed), Lost: someNumber(seed)}
	}
	return l
}

// Whatever is given: it answers, and where the Line is wrong it is the one fixed answer.
func TestNothingPanicsOutOfALine(t *testing.T) {
	seed := steps(131)
	for range 50000 {
		l := someLine(&seed)
		should := len(l.Hops) == 3 && impl.RoadsOk(l.Roads)
		for k, h := range l.Hops {
			should = should && impl.HopOk(h)
			for _, letter := range h.Way {
				should = should && isAlong(k, letter.Road, len(l.Roads))
			}
		}
		if should {
			checkLineTells(t, l, true, sumOf(capsOf(l)), l.Hops[2].Taker.Bytes)
		} else {
			checkLineRefused(t, l)
		}
	}
}

func TestNothingPanicsOutOfNewLine(t *testing.T) {
	seed := steps(132)
	for range 50000 {
		var caps []int64
		right := true
		for range []int{6, 6, 6, 0, 1, 5, 7, 12}[seed.below(8)] {
			n := someNumber(&seed)
			if seed.below(6) > 0 {
				n = 1 + seed.below(400)
			}
			caps, right = append(caps, n), right && isBetween(n, 1, 400)
		}
		roads := seed.below(7) - 1
		if seed.below(4) == 0 {
			roads = someNumber(&seed)
		}
		if len(caps) != 6 || !right || !isBetween(roads, 1, 4) {
			checkNoNewLine(t, caps, roads)
		} else if l := newLine(t, caps, roads); !sameLine(l, newLineByWords(caps, roads)) || !impl.LineOk(l) {
			t.Fatalf("NewLine(%v, %d) is %#v", caps, roads, l)
		}
	}
}

// spareLine is the Line with others in the spare room behind each of its lists.
func spareLine(l impl.Line) impl.Line {
	hops := slices.Clone(l.Hops)
	for k := range hops {
		hops[k].Way = sparePlaces(hops[k].Way, forth(9, 500, "spare", true))
		hops[k].Taker.Parts = sparePlaces(hops[k].Taker.Parts, part(500, "spare"))
	}
	other := hop(giver(500, "spare", 500, 500), taker(500, "spare", 500, 500))
	return line(sparePlaces(l.Roads, openRoad(500, 500, 500)), sparePlaces(hops, other)...)
}

// wholeOf has all that a Line's lists hold, spare room and all, in memory of its own.
func wholeOf(l impl.Line) impl.Line {
	hops := slices.Clone(l.Hops[:cap(l.Hops)])
	for k, h := range hops {
		hops[k].Way = slices.Clone(h.Way[:cap(h.Way)])
		hops[k].Taker.Parts = slices.Clone(h.Taker.Parts[:cap(h.Taker.Parts)])
	}
	return line(slices.Clone(l.Roads[:cap(l.Roads)]), hops...)
}

func TestALineKeepsWhatItHeld(t *testing.T) {
	list := rightLines()
	for _, wrong := range wrongHops() {
		list = append(list, lineAlong(manyRoads(4), fullHops()[0], wrong, fullHops()[2]))
	}
	for _, wrong := range wrongRoads() {
		list = append(list, line(wrong, fullLine(manyRoads(1)).Hops...))
	}
	for n := range 6 {
		list = append(list, line(manyRoads(2), slices.Repeat(fullLine(manyRoads(1)).Hops[:1], n)...))
	}
	for _, l := range list {
		given := spareLine(l)
		was := wholeOf(given)
		is, room, desk := impl.LineOk(given), impl.RoomOf(given), impl.AtDesk(given)
		if !sameLine(wholeOf(given), was) {
			t.Fatalf("what was given, %#v, is now %#v", was, wholeOf(given))
		}
		if is != lineOkByWords(l) {
			t.Fatalf("with room behind its lists, LineOk of %#v is %v", l, is)
		}
		checkLineTells(t, l, is, room, desk)
		checkLineTells(t, given, is, room, desk)
	}
}

func TestNewLineKeepsItsCaps(t *testing.T) {
	for _, list := range append(capsToTry()[:20], nil, []int64{10}, slices.Repeat([]int64{10}, 5), slices.Repeat([]int64{10}, 7), slices.Repeat([]int64{401}, 6)) {
		for roads := int64(0); roads <= 5; roads++ {
			caps := sparePlaces(list, 17)
			was := slices.Clone(caps[:cap(caps)])
			l, is := impl.NewLine(caps, roads)
			if !slices.Equal(caps[:cap(caps)], was) {
				t.Fatalf("the Caps are now %v, not %v", caps[:cap(caps)], was)
			}
			scratchAll(caps, 99)
			if is && !sameLine(l, newLineByWords(list, roads)) {
				t.Fatalf("behind new Caps the Line is %#v", l)
			}
		}
	}
}

// scratchLine writes over each list of a Line, its spare room too.
func scratchLine(l impl.Line) {
	for _, h := range l.Hops[:cap(l.Hops)] {
		scratchAll(h.Way, forth(9, 99, "scratched", true))
		scratchAll(h.Taker.Parts, part(99, "scratched"))
	}
	scratchAll(l.Hops, hop(giver(99, "scratched", 99, 99), taker(99, "scratched", 99, 99)))
	scratchAll(l.Roads, closedRoad(99, 99, 99))
}

func TestNewLinesShareNothing(t *testing.T) {
	caps := []int64{20, 10, 11, 12, 13, 21}
	for roads := int64(1); roads <= 4; roads++ {
		one, other := newLine(t, caps, roads), newLine(t, caps, roads)
		scratchLine(one)
		if !sameLine(other, newLineByWords(caps, roads)) || !sameLine(newLine(t, caps, roads), newLineByWords(caps, roads)) {
			t.Fatalf("behind a Line that is written over, it is %#v", other)
		}
	}
}

// What is put behind each list of the answer, one after the other, must not be seen in another one of its lists.
func TestListsOfANewLineShareNothing(t *testing.T) {
	caps := []int64{20, 10, 11, 12, 13, 21}
	for roads := int64(1); roads <= 4; roads++ {
		l, want := newLine(t, caps, roads), newLineByWords(caps, roads)
		for k := range l.Hops {
			letter, piece := forth(0, int64(k), "a", true), part(int64(k)+3, "b")
			l.Hops[k].Way = append(l.Hops[k].Way, letter)
			l.Hops[k].Taker.Parts = append(l.Hops[k].Taker.Parts, piece)
			want.Hops[k].Way, want.Hops[k].Taker.Parts = []impl.Letter{letter}, []impl.Part{piece}
		}
		if !sameLine(l, want) || !impl.LineOk(l) {
			t.Fatalf("it is %#v, not %#v", l, want)
		}
	}
}
