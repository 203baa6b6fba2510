package tests

import (
	"fmt"
	"math"
	"slices"
	"strings"
	"testing"

	"loop.example/g00450/impl"
)

const mostActs = 300

func world(l impl.Line, s impl.Stream) impl.World {
	return impl.World{Line: l, Stream: s}
}

func newWorld(t *testing.T, caps []int64, roads int64) impl.World {
	t.Helper()
	w, is := impl.NewWorld(caps, roads)
	if !is {
		t.Fatalf("NewWorld(%v, %d) says no", caps, roads)
	}
	return w
}

func sameWorld(a, b impl.World) bool {
	return sameLine(a.Line, b.Line) && a.Stream == b.Stream
}

func isZeroWorld(w impl.World) bool {
	return sameWorld(w, impl.World{})
}

func worldOkByWords(w impl.World) bool {
	return lineOkByWords(w.Line) && streamOkByWords(w.Stream)
}

func writeAct(text string) impl.Act { return impl.Act{Kind: 1, Text: text} }
func endAct() impl.Act              { return impl.Act{Kind: 2} }
func sendAct(hop, road, at, n int64) impl.Act {
	return impl.Act{Kind: 3, Hop: hop, Road: road, At: at, N: n}
}
func tellAct(hop, road int64) impl.Act { return impl.Act{Kind: 4, Hop: hop, Road: road} }
func comeAct(hop, k int64) impl.Act    { return impl.Act{Kind: 5, Hop: hop, N: k} }
func loseAct(hop, k int64) impl.Act    { return impl.Act{Kind: 6, Hop: hop, N: k} }
func twiceAct(hop, k int64) impl.Act   { return impl.Act{Kind: 7, Hop: hop, N: k} }
func pumpAct(house, n int64) impl.Act  { return impl.Act{Kind: 8, Hop: house, N: n} }
func readAct(n int64) impl.Act         { return impl.Act{Kind: 9, N: n} }
func turnAct(road, n int64) impl.Act   { return impl.Act{Kind: 10, Road: road, N: n} }
func lookAct() impl.Act                { return impl.Act{Kind: 11} }

func TestKindsOfActs(t *testing.T) {
	kinds := []int64{impl.AcWrite, impl.AcEnd, impl.AcSend, impl.AcTell, impl.AcCome, impl.AcLose, impl.AcTwice, impl.AcPump, impl.AcRead, impl.AcTurn, impl.AcLook}
	if !slices.Equal(kinds, []int64{1, 2, 3, 4, 5, 6, 7, 8, 9, 10, 11}) {
		t.Errorf("the kinds are %v", kinds)
	}
}

// roadLeads is asked of a right Line and of a hop that is there.
func roadLeads(l impl.Line, hop int64, road int64) bool {
	if hop != 1 {
		return road == 0
	}
	return isBetween(road, 0, int64(len(l.Roads))-1) && l.Roads[road].Open
}

// letterByWords tells of the five kinds that are about a Letter.
func letterByWords(l impl.Line, a impl.Act) (impl.Hop, bool) {
	if a.Hop < 0 || a.Hop > 2 {
		return impl.Hop{}, false
	}
	h := l.Hops[a.Hop]
	if (a.Kind == 3 || a.Kind == 4) && !roadLeads(l, a.Hop, a.Road) {
		return h, false
	}
	if a.Kind == 5 && a.N >= 0 && a.N < int64(len(h.Way)) && !roadLeads(l, a.Hop, h.Way[a.N].Road) {
		return h, false
	}
	switch a.Kind {
	case 3:
		return sendsByWords(h, a.Road, a.At, a.N)
	case 4:
		return tellsByWords(h, a.Road, toldByWords(l).may[a.Hop])
	case 5:
		return arrivesByWords(h, a.N)
	case 6:
		return losesByWords(h, a.N)
	}
	return doublesByWords(h, a.N)
}

func pumpByWords(w *impl.World, a impl.Act) bool {
	if a.Hop != 0 && a.Hop != 1 {
		return false
	}
	from, to := &w.Line.Hops[a.Hop], &w.Line.Hops[a.Hop+1]
	ended := to.Giver.End
	x, g, n := pumpsByteByByte(from.Taker, to.Giver, a.N)
	if n == -1 {
		return false
	}
	from.Taker, to.Giver = x, g
	return n > 0 || !ended && g.End
}

// readByWords takes away one byte after the other, as long as there is one.
func readByWords(w *impl.World, a impl.Act) bool {
	desk := &w.Line.Hops[2].Taker
	bytes := ""
	for int64(len(bytes)) < a.N && desk.Bytes != "" {
		bytes += desk.Bytes[:1]
		desk.Bytes = desk.Bytes[1:]
	}
	s, is := readBy(bytes).byWords(w.Stream)
	if a.N < 0 || !is {
		return false
	}
	w.Stream = s
	told := false
	if desk.Ended && desk.Bytes == "" {
		w.Stream, told = toldEnd(true).byWords(w.Stream)
	}
	return told || bytes != ""
}

// actByWords changes the World, and perhaps by half where it says no.
func actByWords(w *impl.World, a impl.Act) bool {
	writer := &w.Line.Hops[0].Giver
	is := false
	switch a.Kind {
	case 1:
		g, n := writesOneByOne(*writer, a.Text)
		*writer = g
		w.Stream, is = grewBy(a.Text[:n]).byWords(w.Stream)
		return is && n > 0
	case 2:
		was := writer.End
		writer.End = true
		w.Stream, is = ended().byWords(w.Stream)
		return is && !was
	case 3, 4, 5, 6, 7:
		h, is := letterByWords(w.Line, a)
		if is {
			w.Line.Hops[a.Hop] = h
		}
		return is
	case 8:
		return pumpByWords(w, a)
	case 9:
		return readByWords(w, a)
	case 10:
		w.Line.Roads, is = turnByWords(w.Line.Roads, a.Road, a.N == 1)
		return is
	case 11:
		was := w.Stream
		w.Stream, is = toldEnd(false).byWords(was)
		return is && writer.Done
	}
	return false
}

// ofARightWorld is what happens by the words, where the World is known to be right.
func ofARightWorld(w impl.World, a impl.Act) (impl.World, bool) {
	next := world(line(slices.Clone(w.Line.Roads), slices.Clone(w.Line.Hops)...), w.Stream)
	if !actByWords(&next, a) {
		return w, false
	}
	return next, true
}

func checkHappen(t *testing.T, w impl.World, a impl.Act) {
	t.Helper()
	want, may := ofARightWorld(w, a)
	got, is := impl.Happen(w, a)
	if is != may || !sameWorld(got, want) {
		t.Fatalf("%.60v of %#v is %#v, %v, not %#v, %v", a, w, got, is, want, may)
	}
	if is == sameWorld(got, w) || !impl.WorldOk(got) || !worldOkByWords(got) {
		t.Fatalf("%.60v of %#v says %v and is %#v", a, w, is, got)
	}
}

// checkWorldRefused is of a World that is not right: whatever is asked.
func checkWorldRefused(t *testing.T, w impl.World) {
	t.Helper()
	if impl.WorldOk(w) {
		t.Fatalf("WorldOk of %#v", w)
	}
	for _, a := range actsOfEachKind() {
		if got, is := impl.Happen(w, a); is || !isZeroWorld(got) {
			t.Fatalf("%v of the wrong %#v is %#v, %v", a, w, got, is)
		}
	}
	for _, n := range []int{0, 1, 300, 301} {
		if got := impl.Play(w, slices.Repeat([]impl.Act{turnAct(0, 0)}, n)); !isZeroWorld(got) {
			t.Fatalf("a play of %d in the wrong %#v is %#v", n, w, got)
		}
	}
}

// actsOfEachKind are each done in fullWorld, but for the end and the look.
func actsOfEachKind() []impl.Act {
	return []impl.Act{writeAct("m"), endAct(), sendAct(0, 0, 7, 9), tellAct(0, 0), comeAct(0, 0), loseAct(1, 0), twiceAct(2, 0), pumpAct(0, 2), readAct(2), turnAct(0, 0), lookAct(), {}, {Kind: 12}}
}

// fullWorld has something at each desk, Parts, Letters on each road, and a Stream to which all of that belongs.
func fullWorld(roads []impl.Road) impl.World {
	return world(fullLine(roads), impl.Stream{Text: "abcdefghijkl", Read: 2})
}

// toldWorld has all told but to the Stream.
func toldWorld(roads []impl.Road, letters int) impl.World {
	return world(allTold(roads, letters), impl.Stream{Text: "abcdefghi", Read: 9, Ended: true})
}

func plainCaps() []int64 {
	return []int64{20, 10, 10, 10, 10, 20}
}

func TestANewWorldIsRight(t *testing.T) {
	for _, caps := range capsToTry() {
		for roads := int64(1); roads <= 4; roads++ {
			w := newWorld(t, caps, roads)
			if !impl.WorldOk(w) || !sameWorld(w, world(newLineByWords(caps, roads), impl.Stream{})) {
				t.Fatalf("NewWorld(%v, %d) is %#v", caps, roads, w)
			}
		}
	}
}

func checkNoNewWorld(t *testing.T, caps []int64, roads int64) {
	t.Helper()
	if w, is := impl.NewWorld(caps, roads); is || !isZeroWorld(w) {
		t.Fatalf("NewWorld(%v, %d) is %#v, %v", caps, roads, w, is)
	}
}

func TestNoNewWorld(t *testing.T) {
	for desk := range desksOfLine {
		for _, n := range noCaps() {
			caps := plainCaps()
			caps[desk] = n
			for roads := int64(0); roads <= 5; roads++ {
				checkNoNewWorld(t, caps, roads)
			}
		}
	}
	for _, roads := range noCountsOfRoads() {
		checkNoNewWorld(t, plainCaps(), roads)
		checkNoNewWorld(t, nil, roads)
	}
	for count := range 30 {
		if count != 6 {
			checkNoNewWorld(t, slices.Repeat([]int64{10}, count), 2)
		}
	}
}

func TestWorldOkAsksBoth(t *testing.T) {
	right := []impl.Stream{{}, {Text: "abc", Read: 2}, {Text: "abc", Read: 3, Ended: true, Done: true, Seen: true}, {Ended: true}, {Text: textFrom(0, 2000), Read: 2000}}
	for _, l := range rightLines() {
		for _, s := range right {
			if !impl.WorldOk(world(l, s)) {
				t.Fatalf("not WorldOk: %#v", world(l, s))
			}
		}
	}
	if impl.WorldOk(impl.World{}) || impl.WorldOk(world(impl.Line{}, right[1])) {
		t.Error("WorldOk without a Line")
	}
}

func TestWrongWorlds(t *testing.T) {
	text := impl.Stream{Text: "abcdefghijkl", Read: 2}
	checkWorldRefused(t, impl.World{})
	checkWorldRefused(t, world(impl.Line{}, text))
	checkWorldRefused(t, world(line(manyRoads(2), impl.Hop{}, impl.Hop{}, impl.Hop{}), text))
	for _, wrong := range wrongHops() {
		for k := range 3 {
			w := fullWorld(manyRoads(4))
			w.Line.Hops[k] = alongRoads(wrong, 1)
			checkWorldRefused(t, w)
		}
	}
	for _, wrong := range wrongRoads() {
		checkWorldRefused(t, world(line(wrong, fullLine(manyRoads(1)).Hops...), text))
	}
	for n := range 6 {
		if n != 3 {
			checkWorldRefused(t, world(line(manyRoads(2), slices.Repeat(fullLine(manyRoads(1)).Hops[:1], n)...), text))
		}
	}
	for k := range 3 {
		for _, road := range append(noRoads(), 1, 2, 3) {
			if !isAlong(k, road, 1) {
				w := fullWorld(manyRoads(1))
				w.Line.Hops[k].Way = []impl.Letter{back(road, 7, 12, false)}
				checkWorldRefused(t, w)
			}
		}
	}
	// The Streams are many; of each kind some are enough here.
	for k, wrong := range wrongStreams() {
		if k%7 == 0 {
			checkWorldRefused(t, world(fullLine(manyRoads(2)), wrong))
			checkWorldRefused(t, world(newLineByWords(plainCaps(), 2), wrong))
		}
	}
}

// kindsThatAreNone come into range, some of them, when cut to fewer bits.
func kindsThatAreNone() []int64 {
	return []int64{0, -1, -2, -11, 12, 13, 22, 255, 256, 257, 258, 265, 65537, 65545, math.MinInt32, math.MaxInt32, round, round + 1, round + 9, -round + 1, -round + 10, math.MinInt64, math.MinInt64 + 1, math.MinInt64 + 9, math.MaxInt64, math.MaxInt64 - 1}
}

func checkNotDone(t *testing.T, w impl.World, a impl.Act) {
	t.Helper()
	if got, is := impl.Happen(w, a); is || !sameWorld(got, w) {
		t.Fatalf("%.60v of %#v is %#v, %v", a, w, got, is)
	}
}

func TestKindsThatAreNone(t *testing.T) {
	for _, kind := range kindsThatAreNone() {
		for _, w := range []impl.World{fullWorld(manyRoads(4)), toldWorld(manyRoads(2), 30), newWorld(t, plainCaps(), 2)} {
			for _, a := range actsOfEachKind() {
				a.Kind = kind
				checkNotDone(t, w, a)
			}
			checkNotDone(t, w, impl.Act{Kind: kind, Hop: 1, Road: 0, At: 4, N: 1, Text: "m"})
		}
	}
}

// A happening is an Act in a World, and what it changes; nothing, where it is not done.
type happening struct {
	name   string
	w      impl.World
	a      impl.Act
	change func(w *impl.World)
}

func checkHappenings(t *testing.T, list []happening) {
	t.Helper()
	for _, c := range list {
		want := world(line(slices.Clone(c.w.Line.Roads), slices.Clone(c.w.Line.Hops)...), c.w.Stream)
		if c.change != nil {
			c.change(&want)
		}
		got, is := impl.Happen(c.w, c.a)
		if is != (c.change != nil) || !sameWorld(got, want) {
			t.Errorf("%s: it is %#v, %v, not %#v", c.name, got, is, want)
		}
		checkHappen(t, c.w, c.a)
	}
}

// full is fullWorld of two roads, of which the second is closed, with some of it otherwise.
func full(changes ...func(w *impl.World)) impl.World {
	w := fullWorld(roads(openRoad(1, 0, 0), closedRoad(2, 0, 0)))
	for _, change := range changes {
		change(&w)
	}
	return w
}

func withStream(s impl.Stream) func(w *impl.World) {
	return func(w *impl.World) { w.Stream = s }
}

func withGiver(hop int, g impl.Giver) func(w *impl.World) {
	return func(w *impl.World) { w.Line.Hops[hop].Giver = g }
}

func withTaker(hop int, x impl.Taker) func(w *impl.World) {
	return func(w *impl.World) { w.Line.Hops[hop].Taker = x }
}

func withWay(hop int, way ...impl.Letter) func(w *impl.World) {
	return func(w *impl.World) { w.Line.Hops[hop].Way = way }
}

func withRoads(list ...impl.Road) func(w *impl.World) {
	return func(w *impl.World) { w.Line.Roads = list }
}

func both(changes ...func(w *impl.World)) func(w *impl.World) {
	return func(w *impl.World) {
		for _, change := range changes {
			change(w)
		}
	}
}

func TestWriting(t *testing.T) {
	grew := func(by string) func(w *impl.World) {
		return both(withGiver(0, giver(7, "hijkl"+by, 9, 10)), withStream(impl.Stream{Text: "abcdefghijkl" + by, Read: 2}))
	}
	long := func(n int64) func(w *impl.World) { return withStream(impl.Stream{Text: textFrom(0, n), Read: 2}) }
	checkHappenings(t, []happening{
		{"one byte", full(), writeAct("m"), grew("m")},
		{"all that go in", full(), writeAct("mnop"), grew("mnop")},
		{"one more than go in", full(), writeAct("mnopq"), grew("mnop")},
		{"many more than go in", full(), writeAct("mnop" + textFrom(0, 5000)), grew("mnop")},
		{"bytes 0 and 255", full(), writeAct("\x00\xff"), grew("\x00\xff")},
		{"nothing", full(), writeAct(""), nil},
		{"nothing goes in", full(withGiver(0, giver(7, "hijklmnop", 9, 10))), writeAct("q"), nil},
		{"nothing goes in near MaxPlace", full(withGiver(0, giver(lastPlace-1, "z", 9, lastPlace))), writeAct("q"), nil},
		{"one goes in near MaxPlace", full(withGiver(0, giver(lastPlace-1, "", 9, lastPlace))), writeAct("qr"),
			both(withGiver(0, giver(lastPlace-1, "q", 9, lastPlace)), withStream(impl.Stream{Text: "abcdefghijklq", Read: 2}))},
		{"behind its end", full(withGiver(0, endedGiver(7, "hijkl", 9, 10)), withStream(impl.Stream{Text: "abcdefghijkl", Ended: true})), writeAct("m"), nil},
		{"behind the desk's end", full(withGiver(0, endedGiver(7, "hijkl", 9, 10))), writeAct("m"), nil},
		{"behind the Stream's end", full(withStream(impl.Stream{Text: "abcdefghijkl", Ended: true})), writeAct("m"), nil},
		{"the Stream has just room for it", full(long(1996)), writeAct("mnopq"),
			both(withGiver(0, giver(7, "hijklmnop", 9, 10)), withStream(impl.Stream{Text: textFrom(0, 1996) + "mnop", Read: 2}))},
		{"the Stream has room for one less than goes in", full(long(1997)), writeAct("mnopq"), nil},
		{"the Stream has room for one", full(long(1999)), writeAct("m"),
			both(withGiver(0, giver(7, "hijklm", 9, 10)), withStream(impl.Stream{Text: textFrom(0, 1999) + "m", Read: 2}))},
		{"the Stream has room for one, and two go in", full(long(1999)), writeAct("mn"), nil},
		{"the Stream has no room", full(long(2000)), writeAct("m"), nil},
		{"whatever else is named", full(), impl.Act{Kind: 1, Hop: 9, Road: -4, At: -1, N: -1, Text: "mn"}, grew("mn")},
	})
}

func TestEnding(t *testing.T) {
	done := both(withGiver(0, endedGiver(7, "hijkl", 9, 10)), withStream(impl.Stream{Text: "abcdefghijkl", Read: 2, Ended: true}))
	checkHappenings(t, []happening{
		{"once", full(), endAct(), done},
		{"twice", full(done), endAct(), nil},
		{"the desk was at its end", full(withGiver(0, endedGiver(7, "hijkl", 9, 10))), endAct(), nil},
		{"the Stream was Ended", full(withStream(impl.Stream{Text: "abcdefghijkl", Read: 2, Ended: true})), endAct(), nil},
		{"whatever else is named", full(), impl.Act{Kind: 2, Hop: 9, Road: -4, At: -1, N: -1, Text: "mn"}, done},
		{"nothing was written", newWorldByWords(), endAct(), both(withGiver(0, endedGiver(0, "", 20, 0)), withStream(impl.Stream{Ended: true}))},
	})
}

func newWorldByWords() impl.World {
	return world(newLineByWords(plainCaps(), 2), impl.Stream{})
}

// few has one Letter under way in each hop: forth in the first one, back in the last one, in the middle on the road that is asked.
func few(road int64, changes ...func(w *impl.World)) impl.World {
	w := full(withWay(0, forth(0, 7, "h", false)), withWay(1, forth(road, 5, "f", false)), withWay(2, back(0, 4, 23, false)))
	both(changes...)(&w)
	return w
}

func TestSending(t *testing.T) {
	more := func(hop int, road int64, was impl.Letter, at int64, bytes string, end bool) func(w *impl.World) {
		return withWay(hop, was, forth(road, at, bytes, end))
	}
	first, middle, last := forth(0, 7, "h", false), forth(0, 5, "f", false), back(0, 4, 23, false)
	thirty := slices.Repeat([]impl.Letter{first}, 30)
	checkHappenings(t, []happening{
		{"first hop, below its Limit", few(0), sendAct(0, 0, 7, 40), more(0, 0, first, 7, "hij", false)},
		{"first hop, one byte", few(0), sendAct(0, 0, 8, 1), more(0, 0, first, 8, "i", false)},
		{"first hop, nothing below its Limit", few(0), sendAct(0, 0, 10, 1), nil},
		{"first hop, at most 0", few(0), sendAct(0, 0, 7, 0), nil},
		{"first hop, less than 0", few(0), sendAct(0, 0, 7, -1), nil},
		{"first hop, more than MaxBytes", few(0), sendAct(0, 0, 7, 41), nil},
		{"first hop, ahead of its Base", few(0), sendAct(0, 0, 6, 1), nil},
		{"first hop, behind all", few(0), sendAct(0, 0, 13, 1), nil},
		{"first hop, road 1", few(0), sendAct(0, 1, 7, 1), nil},
		{"first hop, road -1", few(0), sendAct(0, -1, 7, 1), nil},
		{"first hop, road 1 is Open", few(0, withRoads(openRoad(1, 0, 0), openRoad(2, 0, 0))), sendAct(0, 1, 7, 1), nil},
		{"first hop, road 0 of the middle is closed", few(0, withRoads(closedRoad(1, 0, 0))), sendAct(0, 0, 7, 1), more(0, 0, first, 7, "h", false)},
		{"first hop, no room", few(0, withWay(0, thirty...)), sendAct(0, 0, 7, 1), nil},
		{"first hop, room for one", few(0, withWay(0, thirty[:29]...)), sendAct(0, 0, 7, 1), withWay(0, thirty...)},
		{"middle hop, all and its end", few(0), sendAct(1, 0, 4, 40), more(1, 0, middle, 4, "efg", true)},
		{"middle hop, all but one", few(0), sendAct(1, 0, 4, 2), more(1, 0, middle, 4, "ef", false)},
		{"middle hop, its end alone", few(0), sendAct(1, 0, 7, 40), more(1, 0, middle, 7, "", true)},
		{"middle hop, its end alone, at most 0", few(0), sendAct(1, 0, 7, 0), more(1, 0, middle, 7, "", true)},
		{"middle hop, a closed road", few(0), sendAct(1, 1, 4, 40), nil},
		{"middle hop, the second road is Open", few(0, withRoads(closedRoad(1, 0, 0), openRoad(2, 0, 0))), sendAct(1, 1, 4, 40), more(1, 1, middle, 4, "efg", true)},
		{"middle hop, the first road is closed", few(0, withRoads(closedRoad(1, 0, 0), openRoad(2, 0, 0))), sendAct(1, 0, 4, 40), nil},
		{"middle hop, a road that is not there", few(0), sendAct(1, 2, 4, 40), nil},
		{"middle hop, road -1", few(0), sendAct(1, -1, 4, 40), nil},
		{"middle hop, the last of four", few(0, withRoads(closedRoad(1, 0, 0), closedRoad(1, 0, 0), closedRoad(1, 0, 0), openRoad(1, 0, 0))), sendAct(1, 3, 5, 40), more(1, 3, middle, 5, "fg", true)},
		{"middle hop, road 4", few(0, withRoads(openRoad(1, 0, 0), openRoad(1, 0, 0), openRoad(1, 0, 0), openRoad(1, 0, 0))), sendAct(1, 4, 5, 40), nil},
		{"last hop", few(0), sendAct(2, 0, 2, 40), more(2, 0, last, 2, "c", false)},
		{"last hop, road 1", few(0), sendAct(2, 1, 2, 40), nil},
		{"last hop, all roads closed", few(0, withRoads(closedRoad(1, 0, 0))), sendAct(2, 0, 2, 40), more(2, 0, last, 2, "c", false)},
		{"hop -1", few(0), sendAct(-1, 0, 7, 1), nil},
		{"hop 3", few(0), sendAct(3, 0, 7, 1), nil},
		{"whatever Text", few(0), impl.Act{Kind: 3, At: 8, N: 1, Text: "x"}, more(0, 0, first, 8, "i", false)},
	})
}

func TestTelling(t *testing.T) {
	more := func(hop int, was impl.Letter, road, at, limit int64, done bool) func(w *impl.World) {
		return withWay(hop, was, back(road, at, limit, done))
	}
	first, middle, last := forth(0, 7, "h", false), forth(0, 5, "f", false), back(0, 4, 23, false)
	ended := taker(7, "fg", 9, 7)
	thirty := slices.Repeat([]impl.Letter{first}, 30)
	checkHappenings(t, []happening{
		{"first hop", few(0), tellAct(0, 0), more(0, first, 0, 7, 13, false)},
		{"first hop, Ended, the next not Done", few(0, withTaker(0, ended)), tellAct(0, 0), more(0, first, 0, 7, 14, false)},
		{"first hop, Ended, the next Done", few(0, withTaker(0, ended), withGiver(1, doneGiver(7, 9, 9))), tellAct(0, 0), more(0, first, 0, 7, 14, true)},
		{"first hop, not Ended, the next Done", few(0, withGiver(1, doneGiver(7, 9, 9))), tellAct(0, 0), more(0, first, 0, 7, 13, false)},
		{"first hop, Ended, the last one Done", few(0, withTaker(0, ended), withGiver(2, doneGiver(7, 9, 9))), tellAct(0, 0), more(0, first, 0, 7, 14, false)},
		{"first hop, Ended, the first one Done", few(0, withTaker(0, ended), withGiver(0, doneGiver(7, 9, 9))), tellAct(0, 0), more(0, first, 0, 7, 14, false)},
		{"first hop, road 1", few(0, withRoads(openRoad(1, 0, 0), openRoad(2, 0, 0))), tellAct(0, 1), nil},
		{"first hop, all roads closed", few(0, withRoads(closedRoad(1, 0, 0))), tellAct(0, 0), more(0, first, 0, 7, 13, false)},
		{"first hop, no room", few(0, withWay(0, thirty...)), tellAct(0, 0), nil},
		{"first hop, at MaxPlace", few(0, withTaker(0, taker(lastPlace, "", 9, -1))), tellAct(0, 0), more(0, first, 0, lastPlace, lastPlace, false)},
		{"middle hop", few(0), tellAct(1, 0), more(1, middle, 0, 5, 16, false)},
		{"middle hop, Ended, the next not Done", few(0, withTaker(1, ended)), tellAct(1, 0), more(1, middle, 0, 7, 14, false)},
		{"middle hop, Ended, the next Done", few(0, withTaker(1, ended), withGiver(2, doneGiver(7, 9, 9))), tellAct(1, 0), more(1, middle, 0, 7, 14, true)},
		{"middle hop, Ended, its own Giver Done", few(0, withTaker(1, ended), withGiver(1, doneGiver(7, 9, 9))), tellAct(1, 0), more(1, middle, 0, 7, 14, false)},
		{"middle hop, a closed road", few(0), tellAct(1, 1), nil},
		{"middle hop, the second road is Open", few(0, withRoads(closedRoad(1, 0, 0), openRoad(2, 0, 0))), tellAct(1, 1), more(1, middle, 1, 5, 16, false)},
		{"middle hop, a road that is not there", few(0), tellAct(1, 2), nil},
		{"middle hop, road -1", few(0), tellAct(1, -1), nil},
		{"last hop", few(0), tellAct(2, 0), more(2, last, 0, 4, 21, false)},
		{"last hop, Ended", few(0, withTaker(2, ended)), tellAct(2, 0), more(2, last, 0, 7, 14, true)},
		{"last hop, all but Ended", few(0, withTaker(2, taker(7, "fg", 9, 8))), tellAct(2, 0), more(2, last, 0, 7, 14, false)},
		{"last hop, road 1", few(0), tellAct(2, 1), nil},
		{"hop -1", few(0), tellAct(-1, 0), nil},
		{"hop 3", few(0), tellAct(3, 0), nil},
		{"whatever else is named", few(0), impl.Act{Kind: 4, At: -1, N: -1, Text: "x"}, more(0, first, 0, 7, 13, false)},
	})
}

func TestComing(t *testing.T) {
	shut := withRoads(closedRoad(1, 0, 0), closedRoad(2, 0, 0))
	second := withRoads(closedRoad(1, 0, 0), openRoad(2, 0, 0))
	two := withWay(1, forth(1, 5, "f", false), back(0, 5, 16, false))
	came := both(withTaker(1, taker(7, "defg", 13, -1)), withWay(1))
	checkHappenings(t, []happening{
		{"forth in the first hop", few(0), comeAct(0, 0), both(withTaker(0, taker(9, "efghi", 9, 12, part(10, "kl"))), withWay(0))},
		{"forth in the first hop, all roads closed", few(0, shut), comeAct(0, 0), both(withTaker(0, taker(9, "efghi", 9, 12, part(10, "kl"))), withWay(0))},
		{"back in the last hop", few(0), comeAct(2, 0), both(withGiver(2, giver(4, "", 17, 23)), withWay(2))},
		{"back in the last hop, all roads closed", few(0, shut), comeAct(2, 0), both(withGiver(2, giver(4, "", 17, 23)), withWay(2))},
		{"in the middle, its road is Open", few(0), comeAct(1, 0), came},
		{"in the middle, its road was closed meanwhile", few(1), comeAct(1, 0), nil},
		{"in the middle, all roads closed", few(0, shut), comeAct(1, 0), nil},
		{"in the middle, only its road is Open", few(1, second), comeAct(1, 0), came},
		{"in the middle, only the other road is Open", few(0, second), comeAct(1, 0), nil},
		{"in the middle, the second one, its road is Open", few(0, two), comeAct(1, 1), both(withGiver(1, endedGiver(5, "fg", 11, 16)), withWay(1, forth(1, 5, "f", false)))},
		{"in the middle, the first one, its road is closed", few(0, two), comeAct(1, 0), nil},
		{"the Act's Road does not matter", few(0), impl.Act{Kind: 5, Hop: 1, Road: 1}, came},
		{"the Act's Road is none", few(0), impl.Act{Kind: 5, Hop: 1, Road: -7}, came},
		{"the Act's Road is Open, its own is not", few(1), impl.Act{Kind: 5, Hop: 1, Road: 0}, nil},
		{"the Act's Road is not 0, in the first hop", few(0), impl.Act{Kind: 5, Road: 1}, both(withTaker(0, taker(9, "efghi", 9, 12, part(10, "kl"))), withWay(0))},
		{"nobody has a use for it", few(0, withWay(0, forth(0, 3, "d", false))), comeAct(0, 0), withWay(0)},
		{"none under way", few(0, withWay(1)), comeAct(1, 0), nil},
		{"one behind the last", few(0), comeAct(1, 1), nil},
		{"one ahead of the first", few(0), comeAct(1, -1), nil},
		{"hop -1", few(0), comeAct(-1, 0), nil},
		{"hop 3", few(0), comeAct(3, 0), nil},
	})
}

func TestLosingAndDoubling(t *testing.T) {
	shut := withRoads(closedRoad(1, 0, 0), closedRoad(2, 0, 0))
	letters := []impl.Letter{forth(0, 7, "h", false), back(0, 4, 23, false), forth(0, 8, "i", true)}
	thirty := slices.Repeat(letters, 10)
	var list []happening
	for k, name := range []string{"first", "middle", "last"} {
		three := few(0, withWay(k, letters...))
		list = append(list,
			happening{name + ": the first is lost", three, loseAct(int64(k), 0), withWay(k, letters[1], letters[2])},
			happening{name + ": the second is lost", three, loseAct(int64(k), 1), withWay(k, letters[0], letters[2])},
			happening{name + ": the last is lost", three, loseAct(int64(k), 2), withWay(k, letters[0], letters[1])},
			happening{name + ": one behind the last is lost", three, loseAct(int64(k), 3), nil},
			happening{name + ": one ahead of the first is lost", three, loseAct(int64(k), -1), nil},
			happening{name + ": none is there to be lost", few(0, withWay(k)), loseAct(int64(k), 0), nil},
			happening{name + ": lost, all roads closed", few(0, withWay(k, letters...), shut), loseAct(int64(k), 0), withWay(k, letters[1], letters[2])},
			happening{name + ": lost, whatever Road", three, impl.Act{Kind: 6, Hop: int64(k), Road: 9, N: 1}, withWay(k, letters[0], letters[2])},
			happening{name + ": the first twice", three, twiceAct(int64(k), 0), withWay(k, wayAnd(letters, letters[0])...)},
			happening{name + ": the second twice", three, twiceAct(int64(k), 1), withWay(k, wayAnd(letters, letters[1])...)},
			happening{name + ": the last twice", three, twiceAct(int64(k), 2), withWay(k, wayAnd(letters, letters[2])...)},
			happening{name + ": one behind the last twice", three, twiceAct(int64(k), 3), nil},
			happening{name + ": one ahead of the first twice", three, twiceAct(int64(k), -1), nil},
			happening{name + ": none is there to be doubled", few(0, withWay(k)), twiceAct(int64(k), 0), nil},
			happening{name + ": twice, all roads closed", few(0, withWay(k, letters...), shut), twiceAct(int64(k), 1), withWay(k, wayAnd(letters, letters[1])...)},
			happening{name + ": twice, whatever Road", three, impl.Act{Kind: 7, Hop: int64(k), Road: -9, N: 1}, withWay(k, wayAnd(letters, letters[1])...)},
			happening{name + ": twice, no room", few(0, withWay(k, thirty...)), twiceAct(int64(k), 1), nil},
			happening{name + ": twice, room for one", few(0, withWay(k, thirty[:29]...)), twiceAct(int64(k), 2), withWay(k, thirty...)},
		)
	}
	for _, hop := range []int64{-1, 3} {
		list = append(list, happening{"no hop to lose in", few(0), loseAct(hop, 0), nil}, happening{"no hop to double in", few(0), twiceAct(hop, 0), nil})
	}
	checkHappenings(t, list)
}

func TestPumping(t *testing.T) {
	from := withTaker(0, taker(7, "efg", 9, 7))
	to := withGiver(1, giver(1, "bcd", 11, 9))
	end := both(withTaker(0, taker(7, "", 9, 7)), withGiver(1, endedGiver(1, "bcdefg", 11, 9)))
	none := withTaker(0, taker(7, "", 9, 7))
	tight := withGiver(1, giver(1, "bcd", 4, 9))
	second := both(withTaker(1, taker(5, "d", 13, -1, part(6, "g"))), withGiver(2, giver(2, "cdd", 17, 3)))
	checkHappenings(t, []happening{
		{"all that is there", full(from, to), pumpAct(0, 3), end},
		{"more than is there", full(from, to), pumpAct(0, 4), end},
		{"MaxCap", full(from, to), pumpAct(0, 400), end},
		{"one more than MaxCap", full(from, to), pumpAct(0, 401), nil},
		{"less than 0", full(from, to), pumpAct(0, -1), nil},
		{"one less than is there", full(from, to), pumpAct(0, 2), both(withTaker(0, taker(7, "g", 9, 7)), withGiver(1, giver(1, "bcdef", 11, 9)))},
		{"none", full(from, to), pumpAct(0, 0), nil},
		{"none is there, and the end is to be told", full(none, to), pumpAct(0, 9), withGiver(1, endedGiver(1, "bcd", 11, 9))},
		{"at most none, and the end is to be told", full(none, to), pumpAct(0, 0), withGiver(1, endedGiver(1, "bcd", 11, 9))},
		{"none is there, and the end was told", full(none, withGiver(1, endedGiver(1, "bcd", 11, 9))), pumpAct(0, 9), nil},
		{"none is there", full(withTaker(0, taker(7, "", 9, -1)), to), pumpAct(0, 9), nil},
		{"none is there, one is missing", full(withTaker(0, taker(7, "", 9, 8)), to), pumpAct(0, 9), nil},
		{"room for one", full(from, tight), pumpAct(0, 9), both(withTaker(0, taker(7, "fg", 9, 7)), withGiver(1, giver(1, "bcde", 4, 9)))},
		{"no room", full(from, withGiver(1, giver(1, "bcd", 3, 9))), pumpAct(0, 9), nil},
		{"behind the next one's end", full(from, withGiver(1, endedGiver(1, "bcd", 11, 9))), pumpAct(0, 9), nil},
		{"the second porter", full(), pumpAct(1, 1), both(withTaker(1, taker(5, "e", 13, -1, part(6, "g"))), withGiver(2, giver(2, "cdd", 17, 3)))},
		{"the second porter, one left that is alike", full(withTaker(1, taker(5, "dd", 13, -1, part(6, "g")))), pumpAct(1, 1), second},
		{"the second porter, whatever else is named", full(withTaker(1, taker(5, "dd", 13, -1, part(6, "g")))), impl.Act{Kind: 8, Hop: 1, Road: 9, At: -1, N: 1, Text: "x"}, second},
		{"a third porter", full(), pumpAct(2, 1), nil},
		{"a fourth porter", full(), pumpAct(3, 1), nil},
		{"porter -1", full(), pumpAct(-1, 1), nil},
	})
}

func TestReading(t *testing.T) {
	text := func(read int64, ended, done, seen bool) func(w *impl.World) {
		return withStream(impl.Stream{Text: "abcd", Read: read, Ended: ended, Done: done, Seen: seen})
	}
	desk := func(bytes string, end int64) func(w *impl.World) { return withTaker(2, taker(4, bytes, 19, end)) }
	two := full(desk("cd", -1))
	all := full(desk("cd", 4), text(2, true, false, false))
	nothing := full(desk("", 4), text(4, true, false, false))
	checkHappenings(t, []happening{
		{"one", two, readAct(1), both(desk("d", -1), withStream(impl.Stream{Text: "abcdefghijkl", Read: 3}))},
		{"all that is there", two, readAct(2), both(desk("", -1), withStream(impl.Stream{Text: "abcdefghijkl", Read: 4}))},
		{"more than is there", two, readAct(3), both(desk("", -1), withStream(impl.Stream{Text: "abcdefghijkl", Read: 4}))},
		{"MaxCap", two, readAct(400), both(desk("", -1), withStream(impl.Stream{Text: "abcdefghijkl", Read: 4}))},
		{"more than MaxCap", two, readAct(math.MaxInt64), both(desk("", -1), withStream(impl.Stream{Text: "abcdefghijkl", Read: 4}))},
		{"none", two, readAct(0), nil},
		{"less than 0", two, readAct(-1), nil},
		{"the least number", two, readAct(math.MinInt64), nil},
		{"none is there", full(desk("", -1)), readAct(9), nil},
		{"Parts stay", full(), readAct(9), both(withTaker(2, taker(4, "", 19, -1, part(5, "f"), part(7, "h"))), withStream(impl.Stream{Text: "abcdefghijkl", Read: 4}))},
		{"other bytes", full(desk("cx", -1)), readAct(2), nil},
		{"of other bytes those that are alike", full(desk("cx", -1)), readAct(1), both(desk("x", -1), withStream(impl.Stream{Text: "abcdefghijkl", Read: 3}))},
		{"more than was written", full(desk("cd", -1), withStream(impl.Stream{Text: "abc", Read: 2})), readAct(2), nil},
		{"all, and the end", all, readAct(2), both(desk("", 4), text(4, true, false, true))},
		{"more than all, and the end", all, readAct(400), both(desk("", 4), text(4, true, false, true))},
		{"all but one", all, readAct(1), both(desk("d", 4), text(3, true, false, false))},
		{"none, ahead of the last ones", all, readAct(0), nil},
		{"nothing, and the end is there to be told", nothing, readAct(0), text(4, true, false, true)},
		{"one, and only the end is there", nothing, readAct(1), text(4, true, false, true)},
		{"less than 0, and the end is there to be told", nothing, readAct(-1), nil},
		{"the end, behind Done", full(desk("", 4), text(4, true, true, false)), readAct(0), text(4, true, true, true)},
		{"the end was told", full(desk("", 4), text(4, true, false, true)), readAct(0), nil},
		{"the end was told, one more", full(desk("", 4), text(4, true, true, true)), readAct(1), nil},
		{"all, and the Stream is not Ended", full(desk("cd", 4), text(2, false, false, false)), readAct(9), both(desk("", 4), text(4, false, false, false))},
		{"the end, and the Stream is not Ended", full(desk("", 4), text(4, false, false, false)), readAct(9), nil},
		{"all at the desk, and the Stream has more", full(desk("cd", 4), withStream(impl.Stream{Text: "abcde", Read: 2, Ended: true})), readAct(9), both(desk("", 4), withStream(impl.Stream{Text: "abcde", Read: 4, Ended: true}))},
		{"the end, and the Stream has more", full(desk("", 4), withStream(impl.Stream{Text: "abcde", Read: 4, Ended: true})), readAct(9), nil},
		{"all, and the desk is not at its end", full(desk("cd", 5), text(2, true, false, false)), readAct(9), both(desk("", 5), text(4, true, false, false))},
		{"whatever else is named", two, impl.Act{Kind: 9, Hop: -3, Road: 9, At: -1, N: 1, Text: "x"}, both(desk("d", -1), withStream(impl.Stream{Text: "abcdefghijkl", Read: 3}))},
	})
}

func TestTurning(t *testing.T) {
	open, shut := openRoad(1, 5, 2), closedRoad(2, 7, 7)
	opened, closed := openRoad(2, 7, 7), closedRoad(1, 5, 2)
	two := full(withRoads(open, shut))
	checkHappenings(t, []happening{
		{"closed", two, turnAct(0, 0), withRoads(closed, shut)},
		{"closed by 2", two, turnAct(0, 2), withRoads(closed, shut)},
		{"closed by -1", two, turnAct(0, -1), withRoads(closed, shut)},
		{"closed by a number that is 1 when cut", two, turnAct(0, round+1), withRoads(closed, shut)},
		{"opened", two, turnAct(1, 1), withRoads(open, opened)},
		{"it is Open already", two, turnAct(0, 1), nil},
		{"it is closed already", two, turnAct(1, 0), nil},
		{"it is closed already, by 2", two, turnAct(1, 2), nil},
		{"a road that is not there", two, turnAct(2, 1), nil},
		{"road -1", two, turnAct(-1, 0), nil},
		{"the last of four", full(withRoads(open, open, open, open)), turnAct(3, 0), withRoads(open, open, open, closed)},
		{"road 4", full(withRoads(open, open, open, open)), turnAct(4, 0), nil},
		{"the only one", full(withWay(1), withRoads(open)), turnAct(0, 0), withRoads(closed)},
		{"whatever else is named", two, impl.Act{Kind: 10, Hop: 9, Road: 1, At: -1, N: 1, Text: "x"}, withRoads(open, opened)},
	})
}

func TestLooking(t *testing.T) {
	stream := func(read int64, ended, done, seen bool) func(w *impl.World) {
		return withStream(impl.Stream{Text: "abcd", Read: read, Ended: ended, Done: done, Seen: seen})
	}
	done := withGiver(0, doneGiver(4, 9, 9))
	checkHappenings(t, []happening{
		{"before the writer is told", full(withGiver(0, endedGiver(4, "", 9, 9)), stream(4, true, false, false)), lookAct(), nil},
		{"before the writer is told, all others Done", full(withGiver(0, endedGiver(4, "", 9, 9)), withGiver(1, doneGiver(4, 9, 9)), withGiver(2, doneGiver(4, 9, 9)), stream(4, true, false, false)), lookAct(), nil},
		{"once the writer is told", full(done, stream(2, true, false, false)), lookAct(), stream(2, true, true, false)},
		{"once the writer is told, behind Seen", full(done, stream(4, true, false, true)), lookAct(), stream(4, true, true, true)},
		{"twice", full(done, stream(2, true, true, false)), lookAct(), nil},
		{"twice, behind Seen", full(done, stream(4, true, true, true)), lookAct(), nil},
		{"the Stream is not Ended", full(done, stream(4, false, false, false)), lookAct(), nil},
		{"in a new World", newWorldByWords(), lookAct(), nil},
		{"whatever else is named", full(done, stream(2, true, false, false)), impl.Act{Kind: 11, Hop: 9, Road: -1, At: -1, N: -1, Text: "x"}, stream(2, true, true, false)},
	})
}

// A hop or a road that is none, in a World in which the same is done with another one.
func TestHopsAndRoadsThatAreNone(t *testing.T) {
	w := fullWorld(roads(openRoad(1, 0, 0), openRoad(2, 0, 0)))
	for k := range w.Line.Hops {
		w.Line.Hops[k].Way = w.Line.Hops[k].Way[:5]
	}
	list := []impl.Act{pumpAct(1, 1)}
	for hop := range int64(3) {
		list = append(list, sendAct(hop, 0, w.Line.Hops[hop].Giver.Base, 1), tellAct(hop, 0), comeAct(hop, 0), loseAct(hop, 0), twiceAct(hop, 0))
	}
	for _, a := range list {
		if _, is := impl.Happen(w, a); !is {
			t.Fatalf("%v is not done", a)
		}
		for _, hop := range noHopsOfALine() {
			checkNotDone(t, w, impl.Act{Kind: a.Kind, Hop: hop, At: a.At, N: a.N})
		}
		for _, road := range append(noRoads(), 2, 3, 256, 257, round, round+1) {
			if a.Kind == impl.AcSend || a.Kind == impl.AcTell {
				checkNotDone(t, w, impl.Act{Kind: a.Kind, Hop: a.Hop, Road: road, At: a.At, N: a.N})
			}
			checkNotDone(t, w, turnAct(road, 0))
			checkNotDone(t, w, turnAct(road, 1))
		}
	}
}

// actsAround are acts of all kinds at the edges of what a World has.
func actsAround(w impl.World) []impl.Act {
	list := []impl.Act{endAct(), lookAct(), {}, {Kind: -1}, {Kind: 12}}
	for _, n := range []int64{0, 1, 3, 40, 401, 2001} {
		list = append(list, writeAct(textFrom(12, n)))
	}
	for _, n := range []int64{-1, 0, 1, 2, 3, 399, 400, 401, math.MaxInt64} {
		list = append(list, readAct(n), pumpAct(-1, n), pumpAct(0, n), pumpAct(1, n), pumpAct(2, n))
	}
	for road := int64(-1); road <= 4; road++ {
		list = append(list, turnAct(road, 0), turnAct(road, 1), turnAct(road, 2), tellAct(-1, road), tellAct(0, road), tellAct(1, road), tellAct(2, road), tellAct(3, road))
	}
	for k, h := range w.Line.Hops {
		hop, all := int64(k), int64(len(h.Way))
		for _, n := range []int64{-1, 0, 1, all / 2, all - 1, all} {
			list = append(list, comeAct(hop, n), loseAct(hop, n), twiceAct(hop, n))
		}
		for _, at := range []int64{h.Giver.Base - 1, h.Giver.Base, h.Giver.Base + 1, behindKept(h.Giver), behindKept(h.Giver) + 1} {
			for road := int64(-1); road <= 4; road++ {
				list = append(list, sendAct(hop, road, at, 0), sendAct(hop, road, at, 1), sendAct(hop, road, at, 40), sendAct(hop, road, at, 41))
			}
		}
	}
	return list
}

func TestHappenByWords(t *testing.T) {
	var lines []impl.Line
	for _, letters := range []int{0, 1, 30} {
		lines = append(lines, allTold(manyRoads(2), letters))
	}
	// Of each hop's place there are some: four of them stand side by side.
	for k, l := range rightLines() {
		if k%7 == 0 {
			lines = append(lines, l)
		}
	}
	streams := []impl.Stream{{}, {Text: "abcdefghijkl", Read: 2}, {Text: "abcdefghi", Read: 9, Ended: true}, {Text: "ab", Read: 1, Ended: true, Done: true}, {Text: textFrom(0, 2000), Read: 2000, Ended: true, Seen: true}, {Text: textFrom(0, 1998), Read: 2}}
	for k, l := range lines {
		w := world(l, streams[k%len(streams)])
		for _, a := range actsAround(w) {
			checkHappen(t, w, a)
		}
	}
}

// Each state of the ends at each desk that tells of one, with each state of the Stream.
func TestHappenInEveryStateOfTheEnds(t *testing.T) {
	acts := []impl.Act{writeAct("j"), endAct(), tellAct(0, 0), tellAct(1, 0), tellAct(2, 0), pumpAct(0, 9), pumpAct(1, 9), readAct(0), readAct(9), lookAct()}
	var streams []impl.Stream
	for _, s := range slices.Concat(flagged("abcdefghi", 8), flagged("abcdefghi", 9)) {
		if streamOkByWords(s) {
			streams = append(streams, s)
		}
	}
	seed := steps(16)
	eachThree(giversAt(), func(g [3]giverAt) {
		eachThree(takersAt(), func(x [3]takerAt) {
			w := world(line(roads(openRoad(1, 0, 0)), hop(g[0].g, x[0].x), hop(g[1].g, x[1].x), hop(g[2].g, x[2].x)), streams[seed.below(int64(len(streams)))])
			checkHappen(t, w, acts[seed.below(int64(len(acts)))])
		})
	})
	for _, s := range streams {
		for _, g := range giversAt() {
			for _, x := range takersAt() {
				for _, a := range acts {
					w := world(line(roads(openRoad(1, 0, 0)), hop(g.g, x.x), hop(g.g, x.x), hop(g.g, x.x)), s)
					checkHappen(t, w, a)
				}
			}
		}
	}
}

// A player lets things happen in a new World, and keeps by itself what was written and what was read.
type player struct {
	w             impl.World
	written, read string
	ended         bool
}

// takes writes down what an Act that was done tells of: the bytes that went in, or those that lay at the desk.
func (p *player) takes(was impl.World, a impl.Act) {
	switch a.Kind {
	case impl.AcWrite:
		desk := was.Line.Hops[0].Giver
		p.written += a.Text[:min(int64(len(a.Text)), desk.Cap-int64(len(desk.Bytes)))]
	case impl.AcEnd:
		p.ended = true
	case impl.AcRead:
		desk := impl.AtDesk(was.Line)
		p.read += desk[:min(int64(len(desk)), a.N)]
	}
}

// stands asks for the promise: as one road that never loses anything.
func (p *player) stands(t *testing.T) {
	t.Helper()
	s, desk := p.w.Stream, impl.AtDesk(p.w.Line)
	if !impl.WorldOk(p.w) || !worldOkByWords(p.w) {
		t.Fatalf("it is no longer right: %#v", p.w)
	}
	if s.Text != p.written || s.Read != int64(len(p.read)) || s.Ended != p.ended {
		t.Fatalf("written was %q, read %q, ended %v: %#v", p.written, p.read, p.ended, p.w)
	}
	if !strings.HasPrefix(p.written, p.read+desk) {
		t.Fatalf("at the reader's desk is %q; of %q was read %q: %#v", desk, p.written, p.read, p.w)
	}
	if s.Done && (!p.ended || p.w.Line.Hops[2].Taker.Next != int64(len(p.written)) || p.read+desk != p.written || !p.w.Line.Hops[2].Taker.Ended) {
		t.Fatalf("Done too soon: %#v", p.w)
	}
	if s.Seen && (!p.ended || p.read != p.written) {
		t.Fatalf("Seen too soon: %#v", p.w)
	}
}

// couldRead asks whether all that is at the desk, and the end where it is there, could be read; it changes nothing.
func (p *player) couldRead(t *testing.T) {
	t.Helper()
	desk := impl.AtDesk(p.w.Line)
	atEnd := p.w.Line.Hops[2].Taker.Ended
	got, is := impl.Happen(p.w, readAct(int64(len(desk))))
	if is != (desk != "" || atEnd && !p.w.Stream.Seen) {
		t.Fatalf("a read of %q says %v: %#v", desk, is, p.w)
	}
	if got.Stream.Read != int64(len(p.read+desk)) || got.Stream.Seen != atEnd || impl.AtDesk(got.Line) != "" {
		t.Fatalf("a read of %q makes it %#v", desk, got)
	}
}

func (p *player) does(t *testing.T, a impl.Act) bool {
	t.Helper()
	was := p.w
	got, is := impl.Happen(was, a)
	if is == sameWorld(got, was) {
		t.Fatalf("%v says %v: %#v, %#v", a, is, was, got)
	}
	if is {
		p.takes(was, a)
	}
	p.w = got
	p.stands(t)
	return is
}

// someAct is mostly one that can be done; losing is how many of 20 Letters are lost or doubled where others come.
func (p *player) someAct(seed *steps, text string, losing int64) impl.Act {
	k := seed.below(3)
	h := p.w.Line.Hops[k]
	road, letter := seed.below(4), seed.below(int64(len(h.Way))+1)
	if k != 1 && seed.below(8) > 0 {
		road = 0
	}
	switch n := seed.below(60); {
	case n < 6:
		left := text[len(p.written):]
		if left == "" {
			return endAct()
		}
		return writeAct(left[:min(int64(len(left)), seed.below(30))])
	case n < 16:
		at := h.Giver.Base
		if seed.below(3) == 0 {
			at += seed.below(int64(len(h.Giver.Bytes)) + 1)
		}
		return sendAct(k, road, at, seed.below(41))
	case n < 24:
		return tellAct(k, road)
	case n < 46:
		if seed.below(20) < losing {
			return impl.Act{Kind: impl.AcLose + seed.below(2), Hop: k, N: letter}
		}
		return comeAct(k, letter)
	case n < 52:
		return pumpAct(seed.below(2), seed.below(401))
	case n < 55:
		return readAct(seed.below(30))
	case n < 56:
		return impl.Act{Kind: 3 + seed.below(10), Hop: seed.below(5) - 1, Road: seed.below(6) - 1, At: someNumber(seed), N: someNumber(seed)}
	case n < 58:
		return turnAct(seed.below(4), seed.below(3))
	}
	return lookAct()
}

func TestAsOneRoad(t *testing.T) {
	for _, caps := range [][]int64{{1, 1, 1, 1, 1, 1}, {20, 10, 10, 10, 10, 20}, {400, 400, 400, 400, 400, 400}, {7, 400, 3, 5, 400, 1}, {400, 1, 400, 1, 400, 9}, {2, 3, 2, 3, 2, 3}} {
		for roads := int64(1); roads <= 4; roads++ {
			for _, losing := range []int64{0, 11} {
				seed := steps(roads*100 + losing)
				text := textFrom(0, 5*seed.below(6))
				p := &player{w: newWorld(t, caps, roads)}
				for step := 0; !p.w.Stream.Done || !p.w.Stream.Seen; step++ {
					if step > 200000 {
						t.Fatalf("it never ends: %#v", p.w)
					}
					if p.does(t, p.someAct(&seed, text, losing)); step%8 == 0 {
						p.couldRead(t)
					}
				}
				if p.read != text || p.written != text {
					t.Fatalf("at the end was read %q of %q", p.read, text)
				}
			}
		}
	}
}

// A long text, till the Stream has no more room: from then on nothing is written any more.
func TestAsOneRoadUpToMaxText(t *testing.T) {
	seed := steps(2000)
	text := textFrom(0, 2400)
	p := &player{w: newWorld(t, []int64{300, 200, 300, 200, 300, 400}, 2)}
	for step := 0; len(p.read) < mostText; step++ {
		if step > 200000 {
			t.Fatalf("it never comes: %.60q", p.read)
		}
		a := p.someAct(&seed, text, 3)
		if left := int64(mostText - len(p.written)); a.Kind == impl.AcWrite && left < 30 && seed.below(2) == 0 {
			a.Text = textFrom(int64(len(p.written)), left)
		}
		p.does(t, a)
	}
	if p.written != text[:mostText] || p.read != p.written || p.does(t, writeAct("x")) {
		t.Fatalf("written were %d bytes, read %d", len(p.written), len(p.read))
	}
}

// everyAct of a little World: all that could matter there, with few under way.
func everyAct(p *player, text string, most int) []impl.Act {
	list := []impl.Act{readAct(0), readAct(1), lookAct(), turnAct(0, 0), turnAct(0, 1), pumpAct(0, 1), pumpAct(1, 1)}
	if len(p.written) < len(text) {
		list = append(list, writeAct(text[len(p.written):][:1]))
	} else {
		list = append(list, endAct())
	}
	for k, h := range p.w.Line.Hops {
		hop := int64(k)
		if len(h.Way) < most {
			list = append(list, tellAct(hop, 0), sendAct(hop, 0, h.Giver.Base, 1), twiceAct(hop, 0))
		}
		for letter := range int64(len(h.Way)) {
			list = append(list, comeAct(hop, letter), loseAct(hop, letter))
		}
	}
	return list
}

// everyState is all that a little World can come to, till there is no more, or as far as most go.
func everyState(t *testing.T, text string, way int, most int) []player {
	t.Helper()
	states := []player{{w: newWorld(t, []int64{1, 1, 1, 1, 1, 1}, 1)}}
	known := map[string]bool{fmt.Sprint(states[0]): true}
	for k := 0; k < len(states) && len(states) < most; k++ {
		for _, a := range everyAct(&states[k], text, way) {
			next := states[k]
			if !next.does(t, a) {
				continue
			}
			if name := fmt.Sprint(next); !known[name] {
				known[name] = true
				states = append(states, next)
			}
		}
	}
	return states
}

// With one Letter under way in each hop there is an end to what can come of it, and both are told in some of it.
func TestAsOneRoadInEveryOrder(t *testing.T) {
	for _, text := range []string{"", "a"} {
		done, seen, all := 0, 0, everyState(t, text, 1, 100000)
		for _, p := range all {
			if p.couldRead(t); p.w.Stream.Done {
				done++
			}
			if p.w.Stream.Seen {
				seen++
			}
		}
		if len(all) < 1000 || len(all) >= 100000 || done == 0 || seen == 0 {
			t.Fatalf("of %d states both are told in %d and %d", len(all), done, seen)
		}
	}
	if all := everyState(t, "ab", 2, 8000); len(all) < 8000 {
		t.Fatalf("only %d states", len(all))
	}
}

// What a play is by its acts, one by one.
func playByActs(w impl.World, list []impl.Act) impl.World {
	for _, a := range list {
		w, _ = impl.Happen(w, a)
	}
	return w
}

func someActs(p *player, seed *steps, n int) []impl.Act {
	var list []impl.Act
	q := *p
	for range n {
		a := q.someAct(seed, "many roads, one stream, and he who writes does not know", 5)
		next, is := impl.Happen(q.w, a)
		if is {
			q.takes(q.w, a)
		}
		q.w, list = next, append(list, a)
	}
	return list
}

func TestAPlayIsItsActs(t *testing.T) {
	read := int64(0)
	for _, n := range []int{0, 1, 2, 3, 10, 100, 299, 300} {
		for roads := int64(1); roads <= 4; roads++ {
			seed := steps(n)
			p := &player{w: newWorld(t, plainCaps(), roads)}
			list := someActs(p, &seed, n)
			want := playByActs(p.w, list)
			if got := impl.Play(p.w, list); !sameWorld(got, want) || !impl.WorldOk(got) {
				t.Fatalf("a play of %d is %#v, not %#v", n, got, want)
			}
			read = max(read, want.Stream.Read)
		}
	}
	if read == 0 {
		t.Fatal("in no play anything is read")
	}
	for _, l := range rightLines()[:40] {
		w := world(l, impl.Stream{Text: "abcdefghijkl", Read: 2})
		list := actsAround(w)[:mostActs]
		if got := impl.Play(w, list); !sameWorld(got, playByActs(w, list)) {
			t.Fatalf("a play in %#v is %#v", w, got)
		}
		if got := impl.Play(w, nil); !sameWorld(got, w) {
			t.Fatalf("a play of nothing in %#v is %#v", w, got)
		}
	}
}

// One after the other is not the same as one beside the other: what comes first counts.
func TestAPlayIsInOrder(t *testing.T) {
	w := newWorld(t, plainCaps(), 1)
	if got := impl.Play(w, []impl.Act{writeAct("a"), writeAct("b"), endAct(), writeAct("c")}); got.Stream != (impl.Stream{Text: "ab", Ended: true}) {
		t.Errorf("it is %v", got.Stream)
	}
	if got := impl.Play(w, []impl.Act{writeAct("b"), writeAct("a"), writeAct("c"), endAct()}); got.Stream != (impl.Stream{Text: "bac", Ended: true}) {
		t.Errorf("it is %v", got.Stream)
	}
	// What is refused, first or last or between, stops nothing.
	if got := impl.Play(w, []impl.Act{{}, writeAct("a"), {Kind: 12}, readAct(-1), writeAct("b"), endAct(), endAct()}); got.Stream != (impl.Stream{Text: "ab", Ended: true}) {
		t.Errorf("it is %v", got.Stream)
	}
}

func TestPlaysAreNotTooLong(t *testing.T) {
	for _, w := range []impl.World{newWorld(t, plainCaps(), 2), fullWorld(manyRoads(4))} {
		want := w
		want.Line.Roads = slices.Clone(w.Line.Roads)
		turn := []impl.Act{turnAct(0, 0), turnAct(0, 1)}
		for _, n := range []int{298, 299, 300, 301, 302, 303, 600, 1000} {
			list := slices.Repeat(turn, n)[:n]
			want.Line.Roads[0].Open = n%2 == 0
			got := impl.Play(w, list)
			if n <= mostActs && !sameWorld(got, want) || n > mostActs && !isZeroWorld(got) {
				t.Fatalf("a play of %d is %#v", n, got)
			}
			// Acts that do nothing count, too.
			got = impl.Play(w, make([]impl.Act, n))
			if n <= mostActs && !sameWorld(got, w) || n > mostActs && !isZeroWorld(got) {
				t.Fatalf("a play of %d that do nothing is %#v", n, got)
			}
		}
	}
}

func someAct(seed *steps) impl.Act {
	a := impl.Act{Kind: 1 + seed.below(11), Hop: seed.below(5) - 1, Road: seed.below(6) - 1, At: someNumber(seed), N: someNumber(seed), Text: someBytes(seed)}
	if seed.below(8) == 0 {
		a.Kind = someNumber(seed)
	}
	if seed.below(8) == 0 {
		a.Hop = someNumber(seed)
	}
	if seed.below(8) == 0 {
		a.Road = someNumber(seed)
	}
	if seed.below(2) == 0 {
		a.At, a.N = seed.below(14), seed.below(42)-1
	}
	return a
}

// Whatever is given: it answers, and where the World is wrong it is the one fixed answer.
func TestNothingPanicsOutOfAWorld(t *testing.T) {
	seed := steps(161)
	done, right := 0, 0
	for range 30000 {
		w := world(someLine(&seed), flagged("abcdefghijkl", seed.below(14))[seed.below(8)])
		if seed.below(4) > 0 {
			w.Line = fullLine(shutAndOpen(1+int(seed.below(4)), int(seed.below(16))))
		}
		a := someAct(&seed)
		if !impl.LineOk(w.Line) || !impl.StreamOk(w.Stream) {
			if got, is := impl.Happen(w, a); is || !isZeroWorld(got) || impl.WorldOk(w) || !isZeroWorld(impl.Play(w, []impl.Act{a})) {
				t.Fatalf("%v of the wrong %#v is %#v, %v", a, w, got, is)
			}
			continue
		}
		right++
		if _, is := impl.Happen(w, a); is {
			done++
		}
		checkHappen(t, w, a)
	}
	if right < 3000 || done < 500 {
		t.Fatalf("only %d of them are right, only %d are done", right, done)
	}
}

func TestNothingPanicsOutOfNewWorld(t *testing.T) {
	seed := steps(162)
	for range 30000 {
		var caps []int64
		for range []int{6, 6, 6, 0, 1, 5, 7, 12}[seed.below(8)] {
			caps = append(caps, []int64{1 + seed.below(400), 1 + seed.below(400), someNumber(&seed)}[seed.below(3)])
		}
		roads := []int64{seed.below(7) - 1, someNumber(&seed)}[seed.below(2)]
		l, should := impl.NewLine(caps, roads)
		if w, is := impl.NewWorld(caps, roads); is != should || !sameWorld(w, world(l, impl.Stream{})) || impl.WorldOk(w) != is {
			t.Fatalf("NewWorld(%v, %d) is %#v, %v", caps, roads, w, is)
		}
	}
}

// checkListsApart fills each list of the answer to its brim with something of its own: no other one may show it.
func checkListsApart(t *testing.T, l impl.Line) {
	t.Helper()
	for k, h := range l.Hops {
		scratchAll(h.Way, forth(0, int64(k), "way", true))
		scratchAll(h.Taker.Parts, part(int64(k), "part"))
	}
	for k, h := range l.Hops {
		for _, letter := range h.Way[:cap(h.Way)] {
			if letter != forth(0, int64(k), "way", true) {
				t.Fatalf("in the Way of hop %d stands %v", k, letter)
			}
		}
		for _, p := range h.Taker.Parts[:cap(h.Taker.Parts)] {
			if p != part(int64(k), "part") {
				t.Fatalf("among the Parts of hop %d stands %v", k, p)
			}
		}
	}
}

// checkOwnWorld writes over what was given and what was answered, spare room and all: the other one stays.
func checkOwnWorld(t *testing.T, name string, w impl.World, call func(w impl.World) impl.World) {
	t.Helper()
	given := world(spareLine(w.Line), w.Stream)
	was := wholeOf(given.Line)
	got := call(given)
	if !sameLine(wholeOf(given.Line), was) {
		t.Fatalf("%s: what was given, %#v, is now %#v", name, was, wholeOf(given.Line))
	}
	want := world(wholeOf(got.Line), got.Stream)
	scratchLine(given.Line)
	if !sameLine(wholeOf(got.Line), want.Line) {
		t.Fatalf("%s: what was answered, %#v, is now %#v", name, want, got)
	}
	given = world(spareLine(w.Line), w.Stream)
	got = call(given)
	checkListsApart(t, got.Line)
	scratchLine(got.Line)
	if !sameLine(wholeOf(given.Line), was) {
		t.Fatalf("%s: behind a change of the answer what was given is %#v", name, given)
	}
}

func TestWorldsShareNothing(t *testing.T) {
	worlds := []impl.World{fullWorld(manyRoads(4)), full(), few(0), few(1), toldWorld(manyRoads(3), 30), toldWorld(manyRoads(1), 0), newWorldByWords()}
	for k, l := range rightLines() {
		if k%25 == 0 {
			worlds = append(worlds, world(l, impl.Stream{Text: "abcdefghijkl", Read: 2}))
		}
	}
	for _, w := range worlds {
		acts := slices.Concat(actsOfEachKind(), []impl.Act{sendAct(1, 0, 4, 9), tellAct(1, 0), comeAct(1, 0), comeAct(2, 0), comeAct(0, 4), loseAct(0, 1), twiceAct(0, 1), pumpAct(1, 1), readAct(0), turnAct(0, 1), turnAct(1, 1), sendAct(9, 0, 0, 0)})
		for _, a := range acts {
			checkOwnWorld(t, fmt.Sprint("Happen of ", a), w, func(w impl.World) impl.World {
				got, _ := impl.Happen(w, a)
				return got
			})
			checkOwnWorld(t, fmt.Sprint("Play of ", a), w, func(w impl.World) impl.World { return impl.Play(w, []impl.Act{a}) })
		}
		checkOwnWorld(t, "Play of nothing", w, func(w impl.World) impl.World { return impl.Play(w, nil) })
		checkOwnWorld(t, "Play of all", w, func(w impl.World) impl.World { return impl.Play(w, acts) })
		checkOwnWorld(t, "WorldOk", w, func(w impl.World) impl.World { impl.WorldOk(w); return impl.World{} })
	}
}

func TestWrongWorldsKeepWhatTheyHeld(t *testing.T) {
	text := impl.Stream{Text: "abcdefghijkl", Read: 2}
	for k, wrong := range wrongHops() {
		w := world(lineAlong(manyRoads(4), fullHops()[0], wrong, fullHops()[2]), text)
		if k%4 > 0 {
			continue
		}
		for _, a := range actsOfEachKind() {
			checkOwnWorld(t, fmt.Sprint("Happen of ", a), w, func(w impl.World) impl.World {
				got, _ := impl.Happen(w, a)
				return got
			})
		}
		checkOwnWorld(t, "Play", w, func(w impl.World) impl.World { return impl.Play(w, actsOfEachKind()) })
	}
}

func TestPlayKeepsItsActs(t *testing.T) {
	for _, n := range []int{0, 1, 13, 300, 301} {
		acts := sparePlaces(slices.Repeat(actsOfEachKind(), n)[:n], writeAct("spare"))
		was := slices.Clone(acts[:cap(acts)])
		impl.Play(fullWorld(manyRoads(4)), acts)
		if !slices.Equal(acts[:cap(acts)], was) {
			t.Fatalf("the acts are now %v", acts[:cap(acts)])
		}
	}
}

func TestNewWorldsShareNothing(t *testing.T) {
	caps := sparePlaces(plainCaps(), 17)
	was := slices.Clone(caps[:cap(caps)])
	one, other := newWorld(t, caps, 3), newWorld(t, caps, 3)
	if !slices.Equal(caps[:cap(caps)], was) {
		t.Fatalf("the Caps are now %v", caps[:cap(caps)])
	}
	checkListsApart(t, one.Line)
	scratchLine(one.Line)
	scratchAll(caps, 99)
	if want := world(newLineByWords(plainCaps(), 3), impl.Stream{}); !sameWorld(other, want) || !sameWorld(newWorld(t, plainCaps(), 3), want) {
		t.Fatalf("behind a World that is written over, it is %#v", other)
	}
}
