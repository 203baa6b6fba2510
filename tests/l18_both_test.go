package tests

import (
	"fmt"
	"slices"
	"strings"
	"testing"

	"loop.example/g00450/impl"
)

func pair(there, home impl.World) impl.Pair {
	return impl.Pair{There: there, Back: home}
}

func newPair(t *testing.T, caps []int64, roads int64) impl.Pair {
	t.Helper()
	p, is := impl.NewPair(caps, roads)
	if !is {
		t.Fatalf("NewPair(%v, %d) says no", caps, roads)
	}
	return p
}

func newPairByWords(caps []int64, roads int64) impl.Pair {
	return pair(world(newLineByWords(caps, roads), impl.Stream{}), world(newLineByWords(caps, roads), impl.Stream{}))
}

func samePair(a, b impl.Pair) bool {
	return sameWorld(a.There, b.There) && sameWorld(a.Back, b.Back)
}

func isZeroPair(p impl.Pair) bool {
	return samePair(p, impl.Pair{})
}

func turned(p impl.Pair) impl.Pair {
	return pair(p.Back, p.There)
}

// inOneByWords is of a right Pair: the Act happens in the one that is asked, or in both where it turns a road.
func inOneByWords(p impl.Pair, home bool, a impl.Act) (impl.Pair, bool) {
	there, isThere := ofARightWorld(p.There, a)
	other, isHome := ofARightWorld(p.Back, a)
	switch {
	case a.Kind == 10:
		return pair(there, other), isThere || isHome
	case home:
		return pair(p.There, other), isHome
	}
	return pair(there, p.Back), isThere
}

// checkHappenIn is of a right Pair, and asks both ways.
func checkHappenIn(t *testing.T, p impl.Pair, a impl.Act) {
	t.Helper()
	for _, home := range []bool{false, true} {
		want, may := inOneByWords(p, home, a)
		got, is := impl.HappenIn(p, home, a)
		if is != may || !samePair(got, want) {
			t.Fatalf("%.60v, back %v, of %#v is %#v, %v, not %#v, %v", a, home, p, got, is, want, may)
		}
		if is == samePair(got, p) || !impl.PairOk(got) {
			t.Fatalf("%.60v, back %v, of %#v says %v and is %#v", a, home, p, is, got)
		}
		if a.Kind != impl.AcTurn {
			checkOneWay(t, p, got, is, home, a)
		}
	}
}

// checkOneWay asks for the promise: the one World is what Happen tells of it, the other one is as it was.
func checkOneWay(t *testing.T, was, got impl.Pair, is, home bool, a impl.Act) {
	t.Helper()
	if home {
		was, got = turned(was), turned(got)
	}
	next, may := impl.Happen(was.There, a)
	if is != may || !sameWorld(got.There, next) {
		t.Fatalf("%.60v, back %v: it is %#v, %v, where Happen tells of %#v, %v", a, home, got.There, is, next, may)
	}
	if !sameWorld(got.Back, was.Back) {
		t.Fatalf("%.60v, back %v: the other way was %#v and is %#v", a, home, was.Back, got.Back)
	}
}

// checkPairRefused is of a Pair that is not right: whatever is asked.
func checkPairRefused(t *testing.T, p impl.Pair) {
	t.Helper()
	if impl.PairOk(p) || impl.Quiet(p) {
		t.Fatalf("PairOk is %v, Quiet is %v, of %#v", impl.PairOk(p), impl.Quiet(p), p)
	}
	for _, a := range actsOfEachKind() {
		for _, home := range []bool{false, true} {
			if got, is := impl.HappenIn(p, home, a); is || !isZeroPair(got) {
				t.Fatalf("%v, back %v, of the wrong %#v is %#v, %v", a, home, p, got, is)
			}
		}
	}
}

// checkWrongEachWay has a wrong World the one way, the other way and both.
func checkWrongEachWay(t *testing.T, wrong impl.World) {
	t.Helper()
	right := fullWorld(manyRoads(2))
	checkPairRefused(t, pair(wrong, right))
	checkPairRefused(t, pair(right, wrong))
	checkPairRefused(t, pair(wrong, wrong))
}

func checkNoNewPair(t *testing.T, caps []int64, roads int64) {
	t.Helper()
	if p, is := impl.NewPair(caps, roads); is || !isZeroPair(p) {
		t.Fatalf("NewPair(%v, %d) is %#v, %v", caps, roads, p, is)
	}
}

func TestANewPairIsRight(t *testing.T) {
	for _, caps := range capsToTry() {
		for roads := int64(1); roads <= 4; roads++ {
			p := newPair(t, caps, roads)
			if !samePair(p, newPairByWords(caps, roads)) || !sameWorld(p.There, p.Back) {
				t.Fatalf("NewPair(%v, %d) is %#v", caps, roads, p)
			}
			if !impl.PairOk(p) || impl.Quiet(p) {
				t.Fatalf("of NewPair(%v, %d) PairOk is %v, Quiet is %v", caps, roads, impl.PairOk(p), impl.Quiet(p))
			}
		}
	}
}

func TestNoNewPair(t *testing.T) {
	for desk := range desksOfLine {
		for _, n := range noCaps() {
			caps := plainCaps()
			caps[desk] = n
			for roads := int64(0); roads <= 5; roads++ {
				checkNoNewPair(t, caps, roads)
			}
		}
	}
	for _, roads := range noCountsOfRoads() {
		checkNoNewPair(t, plainCaps(), roads)
		checkNoNewPair(t, nil, roads)
	}
	for count := range 30 {
		if count != 6 {
			checkNoNewPair(t, slices.Repeat([]int64{10}, count), 2)
		}
	}
}

// someWorlds are right ones, of which no two are alike.
func someWorlds() []impl.World {
	return []impl.World{
		fullWorld(manyRoads(4)), fullWorld(manyRoads(1)), full(), few(0), few(1), toldWorld(manyRoads(3), 30), toldWorld(manyRoads(1), 0), newWorldByWords(),
		world(linkedLine(7), impl.Stream{Text: textFrom(0, 2000), Read: 3, Ended: true}),
		world(newLineByWords([]int64{1, 1, 1, 1, 1, 1}, 4), impl.Stream{Text: "ab", Read: 2, Ended: true, Done: true, Seen: true}),
	}
}

func TestPairOkAsksBoth(t *testing.T) {
	for _, one := range someWorlds() {
		for _, other := range someWorlds() {
			if !impl.PairOk(pair(one, other)) {
				t.Fatalf("not PairOk: %#v", pair(one, other))
			}
		}
	}
	for _, l := range rightLines() {
		w := world(l, impl.Stream{Text: "abc", Read: 2})
		if !impl.PairOk(pair(w, newWorldByWords())) || !impl.PairOk(pair(newWorldByWords(), w)) {
			t.Fatalf("not PairOk with %#v", w)
		}
	}
}

func TestWrongPairs(t *testing.T) {
	checkWrongEachWay(t, impl.World{})
	checkPairRefused(t, impl.Pair{})
	checkWrongEachWay(t, world(impl.Line{}, impl.Stream{Text: "abc"}))
	for _, wrong := range wrongHops() {
		for k := range 3 {
			w := fullWorld(manyRoads(4))
			w.Line.Hops[k] = alongRoads(wrong, 1)
			checkWrongEachWay(t, w)
		}
	}
	for k, wrong := range wrongRoads() {
		// They are many; of each kind some are enough here.
		if k%5 == 0 {
			checkWrongEachWay(t, world(line(wrong, fullLine(manyRoads(1)).Hops...), impl.Stream{}))
		}
	}
	for n := range 6 {
		if n != 3 {
			checkWrongEachWay(t, world(line(manyRoads(2), slices.Repeat(fullLine(manyRoads(1)).Hops[:1], n)...), impl.Stream{}))
		}
	}
	for k := range 3 {
		w := fullWorld(manyRoads(1))
		w.Line.Hops[k].Way = []impl.Letter{back(1, 7, 12, false)}
		checkWrongEachWay(t, w)
	}
	for k, wrong := range wrongStreams() {
		if k%13 == 0 {
			checkWrongEachWay(t, world(newLineByWords(plainCaps(), 2), wrong))
		}
	}
}

// eachKindDone has an Act of each kind but turning, and a World in which it is done.
func eachKindDone() []happening {
	done := full(withGiver(0, doneGiver(4, 9, 9)), withStream(impl.Stream{Text: "abcd", Read: 2, Ended: true}))
	return []happening{
		{"write", full(), writeAct("m"), both(withGiver(0, giver(7, "hijklm", 9, 10)), withStream(impl.Stream{Text: "abcdefghijklm", Read: 2}))},
		{"end", full(), endAct(), both(withGiver(0, endedGiver(7, "hijkl", 9, 10)), withStream(impl.Stream{Text: "abcdefghijkl", Read: 2, Ended: true}))},
		{"send", few(0), sendAct(0, 0, 7, 40), withWay(0, forth(0, 7, "h", false), forth(0, 7, "hij", false))},
		{"tell", few(0), tellAct(1, 0), withWay(1, forth(0, 5, "f", false), back(0, 5, 16, false))},
		{"come", few(0), comeAct(2, 0), both(withGiver(2, giver(4, "", 17, 23)), withWay(2))},
		{"lose", few(0), loseAct(1, 0), withWay(1)},
		{"twice", few(0), twiceAct(0, 0), withWay(0, forth(0, 7, "h", false), forth(0, 7, "h", false))},
		{"pump", full(withTaker(1, taker(5, "de", 13, -1))), pumpAct(1, 1), both(withTaker(1, taker(5, "e", 13, -1)), withGiver(2, giver(2, "cdd", 17, 3)))},
		{"read", full(), readAct(2), both(withTaker(2, taker(4, "", 19, -1, part(5, "f"), part(7, "h"))), withStream(impl.Stream{Text: "abcdefghijkl", Read: 4}))},
		{"look", done, lookAct(), withStream(impl.Stream{Text: "abcd", Read: 2, Ended: true, Done: true})},
	}
}

// Each kind but turning, the one way and the other, beside Worlds of all kinds; one in which the same could be done is among them.
func TestWhatHappensTheOneWay(t *testing.T) {
	for _, c := range eachKindDone() {
		next := world(line(slices.Clone(c.w.Line.Roads), slices.Clone(c.w.Line.Hops)...), c.w.Stream)
		c.change(&next)
		for _, other := range append(someWorlds(), c.w) {
			if got, is := impl.HappenIn(pair(c.w, other), false, c.a); !is || !samePair(got, pair(next, other)) {
				t.Fatalf("%s there: it is %#v, %v", c.name, got, is)
			}
			if got, is := impl.HappenIn(pair(other, c.w), true, c.a); !is || !samePair(got, pair(other, next)) {
				t.Fatalf("%s back: it is %#v, %v", c.name, got, is)
			}
			checkHappenIn(t, pair(c.w, other), c.a)
			checkHappenIn(t, pair(other, c.w), c.a)
		}
	}
}

// What could be done the other way is not done the one way.
func TestWhatIsRefusedTheOneWay(t *testing.T) {
	none := world(newLineByWords(plainCaps(), 1), impl.Stream{Ended: true})
	none.Line.Roads = roads(closedRoad(1, 0, 0))
	for _, c := range eachKindDone() {
		if _, is := impl.Happen(none, c.a); is {
			t.Fatalf("%s is done where nothing is", c.name)
		}
		if got, is := impl.HappenIn(pair(none, c.w), false, c.a); is || !samePair(got, pair(none, c.w)) {
			t.Fatalf("%s there: it is %#v, %v", c.name, got, is)
		}
		if got, is := impl.HappenIn(pair(c.w, none), true, c.a); is || !samePair(got, pair(c.w, none)) {
			t.Fatalf("%s back: it is %#v, %v", c.name, got, is)
		}
	}
}

func TestPairsByWords(t *testing.T) {
	list := someWorlds()
	for k, one := range list {
		other := list[(k+3)%len(list)]
		for _, a := range slices.Concat(actsAround(one), actsOfEachKind()) {
			checkHappenIn(t, pair(one, other), a)
			checkHappenIn(t, pair(other, one), a)
		}
	}
}

func TestKindsThatAreNoneInAPair(t *testing.T) {
	for _, kind := range kindsThatAreNone() {
		for _, p := range []impl.Pair{pair(fullWorld(manyRoads(4)), few(0)), pair(few(0), fullWorld(manyRoads(4))), pair(newWorldByWords(), newWorldByWords())} {
			for _, a := range append(actsOfEachKind(), turnAct(1, 1)) {
				a.Kind = kind
				for _, home := range []bool{false, true} {
					if got, is := impl.HappenIn(p, home, a); is || !samePair(got, p) {
						t.Fatalf("kind %d, back %v, of %#v is %#v, %v", kind, home, p, got, is)
					}
				}
			}
		}
	}
}

// ofRoads has nothing but its roads told apart; tag keeps the two of a Pair apart.
func ofRoads(tag string, list ...impl.Road) impl.World {
	return world(line(list, newLineByWords(plainCaps(), 1).Hops...), impl.Stream{Text: tag})
}

func TestTurningInBoth(t *testing.T) {
	open, shut := openRoad(1, 5, 2), closedRoad(1, 5, 2)
	other, gone := openRoad(7, 0, 0), closedRoad(7, 0, 0)
	for _, c := range []struct {
		name              string
		there, home       []impl.Road
		a                 impl.Act
		thereNow, homeNow []impl.Road
		is                bool
	}{
		{"both close", roads(open), roads(open), turnAct(0, 0), roads(shut), roads(shut), true},
		{"both open", roads(shut), roads(shut), turnAct(0, 1), roads(open), roads(open), true},
		{"both close, roads unlike", roads(open), roads(other), turnAct(0, 0), roads(shut), roads(gone), true},
		{"both close the second", roads(open, open), roads(other, other), turnAct(1, 0), roads(open, shut), roads(other, gone), true},
		{"both close the second, of two and of four", roads(open, open), roads(other, other, other, other), turnAct(1, 0), roads(open, shut), roads(other, gone, other, other), true},
		{"there alone: it is closed back", roads(open), roads(gone), turnAct(0, 0), roads(shut), roads(gone), true},
		{"there alone: it is Open back", roads(shut), roads(other), turnAct(0, 1), roads(open), roads(other), true},
		{"there alone: back has it not", roads(open, open), roads(other), turnAct(1, 0), roads(open, shut), roads(other), true},
		{"there alone: back has three, there are four", roads(open, open, open, shut), roads(other, other, other), turnAct(3, 1), roads(open, open, open, open), roads(other, other, other), true},
		{"back alone: it is closed there", roads(shut), roads(other), turnAct(0, 0), roads(shut), roads(gone), true},
		{"back alone: it is Open there", roads(open), roads(gone), turnAct(0, 1), roads(open), roads(other), true},
		{"back alone: there has it not", roads(open), roads(other, other), turnAct(1, 0), roads(open), roads(other, gone), true},
		{"back alone: there has three, back has four", roads(open, open, open), roads(other, other, other, gone), turnAct(3, 1), roads(open, open, open), roads(other, other, other, other), true},
		{"none: both are closed", roads(shut), roads(gone), turnAct(0, 0), roads(shut), roads(gone), false},
		{"none: both are Open", roads(open), roads(other), turnAct(0, 1), roads(open), roads(other), false},
		{"none: neither has it", roads(open, open), roads(other), turnAct(2, 0), roads(open, open), roads(other), false},
		{"none: the one has it not, in the other it is so", roads(open), roads(other, gone), turnAct(1, 0), roads(open), roads(other, gone), false},
		{"none: the other has it not, in the one it is so", roads(open, open), roads(other), turnAct(1, 1), roads(open, open), roads(other), false},
		{"none: road -1", roads(open), roads(other), turnAct(-1, 0), roads(open), roads(other), false},
		{"none: road 4", roads(open, open, open, open), roads(other, other, other, other), turnAct(4, 0), roads(open, open, open, open), roads(other, other, other, other), false},
		{"both close by 2", roads(open), roads(other), turnAct(0, 2), roads(shut), roads(gone), true},
		{"whatever else is named", roads(open), roads(other), impl.Act{Kind: 10, Hop: 9, At: -1, N: -1, Text: "x"}, roads(shut), roads(gone), true},
	} {
		was, want := pair(ofRoads("a", c.there...), ofRoads("b", c.home...)), pair(ofRoads("a", c.thereNow...), ofRoads("b", c.homeNow...))
		for _, home := range []bool{false, true} {
			if got, is := impl.HappenIn(was, home, c.a); is != c.is || !samePair(got, want) {
				t.Errorf("%s, back %v: it is %#v, %v", c.name, home, got, is)
			}
			if got, is := impl.HappenIn(turned(was), home, c.a); is != c.is || !samePair(got, turned(want)) {
				t.Errorf("%s, the other way round, back %v: it is %#v, %v", c.name, home, got, is)
			}
		}
		checkHappenIn(t, was, c.a)
	}
}

// All roads that are Open or not, the one way and the other, with as many as there may be.
func TestTurningOfAllRoads(t *testing.T) {
	var list []impl.World
	for n := 1; n <= mostRoads; n++ {
		for bits := range 1 << n {
			list = append(list, ofRoads("a", shutAndOpen(n, bits)...))
		}
	}
	for _, one := range list {
		for _, other := range list {
			other.Stream.Text = "b"
			for road := int64(-1); road <= 4; road++ {
				checkHappenIn(t, pair(one, other), turnAct(road, road&1))
				checkHappenIn(t, pair(one, other), turnAct(road, 1-road&1))
			}
		}
	}
	for _, road := range append(noRoads(), 255, 256, round, round+1) {
		p := pair(ofRoads("a", shutAndOpen(4, 15)...), ofRoads("b", shutAndOpen(4, 0)...))
		checkHappenIn(t, p, turnAct(road, 0))
		checkHappenIn(t, p, turnAct(road, 1))
	}
}

func quietByWords(s impl.Stream) bool {
	return s.Read == int64(len(s.Text)) && s.Ended && s.Seen && s.Done
}

func quietStream(text string) impl.Stream {
	return impl.Stream{Text: text, Read: int64(len(text)), Ended: true, Done: true, Seen: true}
}

func checkQuiet(t *testing.T, name string, p impl.Pair, want bool) {
	t.Helper()
	if !impl.PairOk(p) {
		t.Fatalf("%s: not PairOk: %#v", name, p)
	}
	if got := impl.Quiet(p); got != want {
		t.Fatalf("%s: Quiet of %#v is %v", name, p, got)
	}
}

func textsToBeRead() []string {
	return append(shortTexts(), everyByte(), textFrom(0, 1999), textFrom(0, 2000), strings.Repeat("\x00", 2000), strings.Repeat("\xff", 40))
}

func TestQuiet(t *testing.T) {
	for _, text := range textsToBeRead() {
		for _, other := range textsToBeRead() {
			one, two := newWorldByWords(), newWorldByWords()
			one.Stream, two.Stream = quietStream(text), quietStream(other)
			checkQuiet(t, "all is Read and told", pair(one, two), true)
		}
	}
	// Nothing but the Streams is asked.
	for _, l := range append(rightLines()[:40], allTold(manyRoads(2), 30), fullLine(manyRoads(4)), linkedLine(7)) {
		checkQuiet(t, "whatever else there is", pair(world(l, quietStream("abc")), world(fullLine(manyRoads(3)), quietStream(""))), true)
		checkQuiet(t, "whatever else there is", pair(world(fullLine(manyRoads(3)), quietStream("")), world(l, quietStream("abc"))), true)
	}
}

// In one of the two something is missing, each thing by itself as far as a Stream may lack it alone.
func TestNotQuiet(t *testing.T) {
	for _, text := range textsToBeRead() {
		all := int64(len(text))
		unquiet := map[string]impl.Stream{
			"not Ended": {Text: text, Read: all},
			"not Seen":  {Text: text, Read: all, Ended: true, Done: true},
			"not Done":  {Text: text, Read: all, Ended: true, Seen: true},
			"not told":  {Text: text, Read: all, Ended: true},
		}
		if all > 0 {
			unquiet["one not Read"] = impl.Stream{Text: text, Read: all - 1, Ended: true, Done: true}
			unquiet["one not Read, not Ended"] = impl.Stream{Text: text, Read: all - 1}
			unquiet["none Read"] = impl.Stream{Text: text, Ended: true, Done: true}
		}
		for name, s := range unquiet {
			l := newLineByWords(plainCaps(), 2)
			for _, other := range []impl.Stream{quietStream(text), quietStream(""), quietStream("xyz")} {
				checkQuiet(t, name+" there", pair(world(l, s), world(l, other)), false)
				checkQuiet(t, name+" back", pair(world(l, other), world(l, s)), false)
			}
			checkQuiet(t, name+" both ways", pair(world(l, s), world(l, s)), false)
		}
	}
	checkQuiet(t, "nothing happened", pair(newWorldByWords(), newWorldByWords()), false)
	// The desks are at their ends, but nobody looked.
	checkQuiet(t, "told but to the Streams", pair(toldWorld(manyRoads(2), 0), toldWorld(manyRoads(2), 0)), false)
}

func TestQuietInEveryStateOfTheStreams(t *testing.T) {
	var streams []impl.Stream
	for _, text := range []string{"", "a", "abc"} {
		for read := int64(-1); read <= int64(len(text))+1; read++ {
			streams = append(streams, flagged(text, read)...)
		}
	}
	l := newLineByWords(plainCaps(), 2)
	quiet := 0
	for _, one := range streams {
		for _, other := range streams {
			p := pair(world(l, one), world(l, other))
			is := streamOkByWords(one) && streamOkByWords(other)
			want := is && quietByWords(one) && quietByWords(other)
			if got := impl.Quiet(p); got != want || impl.PairOk(p) != is {
				t.Fatalf("of %v and %v PairOk is %v, Quiet is %v", one, other, impl.PairOk(p), got)
			}
			if want {
				quiet++
			}
		}
	}
	if quiet != 9 {
		t.Fatalf("%d are quiet", quiet)
	}
}

// A journey is a Pair and, beside it, a player for each way who knows nothing of the other one but its turns.
type journey struct {
	p           impl.Pair
	there, home player
}

func newJourney(t *testing.T, caps []int64, roads int64) *journey {
	t.Helper()
	return &journey{p: newPair(t, caps, roads), there: player{w: newWorld(t, caps, roads)}, home: player{w: newWorld(t, caps, roads)}}
}

func (j *journey) isOver() bool {
	return quietByWords(j.there.w.Stream) && quietByWords(j.home.w.Stream)
}

func (j *journey) does(t *testing.T, home bool, a impl.Act) {
	t.Helper()
	was, may := j.p, false
	if a.Kind == impl.AcTurn || !home {
		may = j.there.does(t, a)
	}
	if a.Kind == impl.AcTurn || home {
		may = j.home.does(t, a) || may
	}
	got, is := impl.HappenIn(was, home, a)
	if want := pair(j.there.w, j.home.w); is != may || !samePair(got, want) {
		t.Fatalf("%v, back %v, of %#v is %#v, %v, not %#v, %v", a, home, was, got, is, want, may)
	}
	if a.Kind != impl.AcTurn {
		checkOneWay(t, was, got, is, home, a)
	}
	if j.p = got; impl.Quiet(got) != j.isOver() {
		t.Fatalf("Quiet of %#v is %v", got, impl.Quiet(got))
	}
}

func TestThereAndBackFromTheBeginningToTheEnd(t *testing.T) {
	for _, caps := range [][]int64{{1, 1, 1, 1, 1, 1}, {20, 10, 10, 10, 10, 20}, {7, 400, 3, 5, 400, 1}, {400, 400, 400, 400, 400, 400}} {
		for roads := int64(1); roads <= 4; roads++ {
			seed := steps(1800 + roads*10 + caps[0])
			one, other := textFrom(0, seed.below(25)), textFrom(100, seed.below(25))
			j := newJourney(t, caps, roads)
			losing := seed.below(8)
			for step := 0; !j.isOver(); step++ {
				if step > 200000 {
					t.Fatalf("it never ends: %#v", j.p)
				}
				if home := seed.below(2) == 0; home {
					j.does(t, true, j.home.someAct(&seed, other, losing))
				} else {
					j.does(t, false, j.there.someAct(&seed, one, losing))
				}
			}
			if !impl.Quiet(j.p) || j.there.read != one || j.home.read != other {
				t.Fatalf("of %q was read %q, of %q was read %q", one, j.there.read, other, j.home.read)
			}
		}
	}
}

// The whole of it the one way, while nothing happens the other way.
func TestTheOneWayAlone(t *testing.T) {
	for _, home := range []bool{false, true} {
		seed := steps(181)
		j := newJourney(t, plainCaps(), 2)
		one, still := &j.there, &j.home
		if home {
			one, still = still, one
		}
		for step := 0; !quietByWords(one.w.Stream); step++ {
			if step > 200000 {
				t.Fatalf("it never ends: %#v", j.p)
			}
			a := one.someAct(&seed, "many roads, one stream", 4)
			if a.Kind == impl.AcTurn {
				continue
			}
			j.does(t, home, a)
		}
		if !sameWorld(still.w, newWorldByWords()) || impl.Quiet(j.p) || one.read != "many roads, one stream" {
			t.Fatalf("back %v: it is %#v", home, j.p)
		}
	}
}

// actsBut has none that turns a road: all others are of one way alone.
func actsBut(list []impl.Act, kind int64) []impl.Act {
	return slices.DeleteFunc(slices.Clone(list), func(a impl.Act) bool { return a.Kind == kind })
}

// In whatever order two lists of Acts are done, each in its own order, the Pair comes to the same.
func TestTheOrderOfTheWaysDoesNotMatter(t *testing.T) {
	for _, caps := range [][]int64{{2, 3, 2, 3, 2, 3}, {20, 10, 10, 10, 10, 20}} {
		for roads := int64(1); roads <= 4; roads++ {
			seed := steps(182 + roads)
			p := newPair(t, caps, roads)
			q := &player{w: newWorld(t, caps, roads)}
			there, home := actsBut(someActs(q, &seed, 300), impl.AcTurn), actsBut(someActs(q, &seed, 300), impl.AcTurn)
			want := pair(impl.Play(p.There, there), impl.Play(p.Back, home))
			if sameWorld(want.There, p.There) || sameWorld(want.Back, p.Back) {
				t.Fatalf("nothing happens: %#v", want)
			}
			for _, often := range []int64{0, 1, 5, 9, 10} {
				if got := interleaved(p, there, home, func() bool { return seed.below(10) < often }); !samePair(got, want) {
					t.Fatalf("it is %#v, not %#v", got, want)
				}
			}
		}
	}
}

// interleaved asks before each Act whether it is the other way's turn.
func interleaved(p impl.Pair, there, home []impl.Act, isHome func() bool) impl.Pair {
	for len(there)+len(home) > 0 {
		if len(there) == 0 || len(home) > 0 && isHome() {
			p, _ = impl.HappenIn(p, true, home[0])
			home = home[1:]
		} else {
			p, _ = impl.HappenIn(p, false, there[0])
			there = there[1:]
		}
	}
	return p
}

// All orders of eight Acts there and eight back: each is one of the numbers of sixteen bits, of which half are set.
func TestEveryOrderOfTheWays(t *testing.T) {
	p := newPair(t, plainCaps(), 2)
	there := []impl.Act{writeAct("hi"), tellAct(0, 0), comeAct(0, 0), sendAct(0, 0, 0, 9), comeAct(0, 0), pumpAct(0, 9), tellAct(1, 1), endAct()}
	home := []impl.Act{tellAct(0, 0), comeAct(0, 0), writeAct("you"), endAct(), sendAct(0, 0, 0, 9), twiceAct(0, 0), loseAct(0, 0), comeAct(0, 0)}
	want := pair(impl.Play(p.There, there), impl.Play(p.Back, home))
	if want.There.Line.Hops[1].Giver.Bytes != "hi" || want.Back.Line.Hops[0].Taker.Bytes != "you" {
		t.Fatalf("it is %#v", want)
	}
	orders := 0
	for bits := range 1 << 16 {
		count := 0
		for k := range 16 {
			count += bits >> k & 1
		}
		if count != 8 {
			continue
		}
		left := bits
		got := interleaved(p, there, home, func() bool {
			isHome := left&1 == 1
			left >>= 1
			return isHome
		})
		if orders++; !samePair(got, want) {
			t.Fatalf("in order %b it is %#v, not %#v", bits, got, want)
		}
	}
	if orders != 12870 {
		t.Fatalf("%d orders", orders)
	}
}

func sparePair(p impl.Pair) impl.Pair {
	return pair(world(spareLine(p.There.Line), p.There.Stream), world(spareLine(p.Back.Line), p.Back.Stream))
}

func wholePair(p impl.Pair) impl.Pair {
	return pair(world(wholeOf(p.There.Line), p.There.Stream), world(wholeOf(p.Back.Line), p.Back.Stream))
}

func scratchPair(p impl.Pair) {
	scratchLine(p.There.Line)
	scratchLine(p.Back.Line)
}

// checkPairApart writes over all that the one World of an answer holds, spare room and all: the other one stays.
func checkPairApart(t *testing.T, name string, p impl.Pair) {
	t.Helper()
	was := wholePair(p)
	checkListsApart(t, p.There.Line)
	scratchLine(p.There.Line)
	if !sameLine(wholeOf(p.Back.Line), was.Back.Line) {
		t.Fatalf("%s: behind a change there, it is back %#v, not %#v", name, p.Back, was.Back)
	}
	was = wholePair(p)
	checkListsApart(t, p.Back.Line)
	scratchLine(p.Back.Line)
	if !sameLine(wholeOf(p.There.Line), was.There.Line) {
		t.Fatalf("%s: behind a change back, it is there %#v, not %#v", name, p.There, was.There)
	}
}

// checkOwnPair writes over what was given and what was answered: neither is to be seen in the other.
func checkOwnPair(t *testing.T, name string, p impl.Pair, call func(p impl.Pair) impl.Pair) {
	t.Helper()
	given := sparePair(p)
	was := wholePair(given)
	got := call(given)
	if !samePair(wholePair(given), was) {
		t.Fatalf("%s: what was given, %#v, is now %#v", name, was, wholePair(given))
	}
	want := wholePair(got)
	scratchPair(given)
	if !samePair(wholePair(got), want) {
		t.Fatalf("%s: what was answered, %#v, is now %#v", name, want, got)
	}
	given = sparePair(p)
	checkPairApart(t, name, call(given))
	if !samePair(wholePair(given), was) {
		t.Fatalf("%s: behind a change of the answer what was given is %#v", name, given)
	}
}

// oneLineTwice has one and the same memory both ways, which an argument may.
func oneLineTwice(p impl.Pair) impl.Pair {
	return pair(p.There, world(p.There.Line, p.Back.Stream))
}

func TestPairsShareNothing(t *testing.T) {
	list := someWorlds()
	for k, one := range list {
		other := list[(k+1)%len(list)]
		acts := slices.Concat(actsOfEachKind(), []impl.Act{sendAct(1, 0, 4, 9), comeAct(1, 0), comeAct(2, 0), loseAct(0, 1), pumpAct(1, 1), turnAct(0, 1), turnAct(1, 1), turnAct(1, 0), turnAct(3, 0), turnAct(3, 1), turnAct(9, 0)})
		for _, a := range acts {
			for _, home := range []bool{false, true} {
				name := fmt.Sprint("HappenIn of ", a, ", back ", home)
				checkOwnPair(t, name, pair(one, other), func(p impl.Pair) impl.Pair {
					got, _ := impl.HappenIn(p, home, a)
					return got
				})
				checkOwnPair(t, name+", one Line", pair(one, other), func(p impl.Pair) impl.Pair {
					got, _ := impl.HappenIn(oneLineTwice(p), home, a)
					return got
				})
			}
		}
		checkOwnPair(t, "PairOk and Quiet", pair(one, other), func(p impl.Pair) impl.Pair {
			impl.PairOk(p)
			impl.Quiet(p)
			return impl.Pair{}
		})
	}
}

// Of a road that only one of the two turns, each way: the one that stays as it is is new memory, too.
func TestATurnInOneAloneSharesNothing(t *testing.T) {
	for _, p := range []impl.Pair{
		pair(fullWorld(roads(openRoad(1, 0, 0), openRoad(2, 0, 0))), fullWorld(roads(openRoad(1, 0, 0)))),
		pair(fullWorld(roads(openRoad(1, 0, 0), openRoad(2, 0, 0))), fullWorld(roads(openRoad(1, 0, 0), closedRoad(2, 0, 0)))),
	} {
		for _, q := range []impl.Pair{p, turned(p)} {
			for _, home := range []bool{false, true} {
				if _, is := impl.HappenIn(q, home, turnAct(1, 0)); !is {
					t.Fatalf("not turned: %#v", q)
				}
				checkOwnPair(t, "turned in one alone", q, func(p impl.Pair) impl.Pair {
					got, _ := impl.HappenIn(p, home, turnAct(1, 0))
					return got
				})
			}
		}
	}
}

func TestWrongPairsKeepWhatTheyHeld(t *testing.T) {
	for k, wrong := range wrongHops() {
		if k%6 > 0 {
			continue
		}
		w := world(lineAlong(manyRoads(4), fullHops()[0], wrong, fullHops()[2]), impl.Stream{Text: "abcdefghijkl", Read: 2})
		for _, p := range []impl.Pair{pair(w, full()), pair(full(), w), pair(w, w)} {
			for _, a := range actsOfEachKind() {
				checkOwnPair(t, "a wrong Pair", p, func(p impl.Pair) impl.Pair {
					impl.PairOk(p)
					impl.Quiet(p)
					impl.HappenIn(p, false, a)
					got, _ := impl.HappenIn(p, true, a)
					return got
				})
			}
		}
	}
}

func TestNewPairsShareNothing(t *testing.T) {
	caps := []int64{20, 10, 11, 12, 13, 21}
	for roads := int64(1); roads <= 4; roads++ {
		given := sparePlaces(caps, 17)
		was := slices.Clone(given[:cap(given)])
		one, other := newPair(t, given, roads), newPair(t, given, roads)
		if !slices.Equal(given[:cap(given)], was) {
			t.Fatalf("the Caps are now %v", given[:cap(given)])
		}
		scratchAll(given, 99)
		want := newPairByWords(caps, roads)
		scratchLine(one.There.Line)
		if !sameWorld(one.Back, want.Back) {
			t.Fatalf("behind a World there that is written over, it is back %#v", one.Back)
		}
		scratchLine(one.Back.Line)
		if !samePair(other, want) || !samePair(newPair(t, caps, roads), want) {
			t.Fatalf("behind a Pair that is written over, it is %#v", other)
		}
		checkPairApart(t, "a new Pair", other)
	}
}

// What happens in the one is not seen in the other, both ways, each kind.
func TestNewPairsAreTwo(t *testing.T) {
	for _, home := range []bool{false, true} {
		p := newPair(t, plainCaps(), 3)
		still := p.Back
		if home {
			still = p.There
		}
		for _, a := range []impl.Act{writeAct("hello"), tellAct(0, 0), comeAct(0, 0), sendAct(0, 0, 0, 40), twiceAct(0, 0), loseAct(0, 0), comeAct(0, 0), pumpAct(0, 40), endAct()} {
			next, is := impl.HappenIn(p, home, a)
			if !is {
				t.Fatalf("%v is not done: %#v", a, p)
			}
			p = next
		}
		if home {
			p = turned(p)
		}
		if !sameWorld(p.Back, world(newLineByWords(plainCaps(), 3), impl.Stream{})) || !sameWorld(still, p.Back) {
			t.Fatalf("back %v: the other way it is %#v", home, p.Back)
		}
		if p.There.Line.Hops[1].Giver.Bytes != "hello" || !p.There.Stream.Ended {
			t.Fatalf("back %v: it is %#v", home, p.There)
		}
	}
}

func someWorld(seed *steps) impl.World {
	w := world(fullLine(shutAndOpen(1+int(seed.below(4)), int(seed.below(16)))), flagged("abcdefghijkl", seed.below(13))[seed.below(2)])
	if seed.below(4) == 0 {
		w.Line = someLine(seed)
	}
	if seed.below(6) == 0 {
		w.Stream = flagged(someBytes(seed), someNumber(seed))[seed.below(8)]
	}
	return w
}

// Whatever is given: it answers, and where the one World or the other is wrong it is the one fixed answer.
func TestNothingPanicsOutOfAPair(t *testing.T) {
	seed := steps(183)
	right, done := 0, 0
	for range 20000 {
		p := pair(someWorld(&seed), someWorld(&seed))
		a, home := someAct(&seed), seed.below(2) == 0
		is := impl.WorldOk(p.There) && impl.WorldOk(p.Back)
		if impl.PairOk(p) != is || impl.Quiet(p) != (is && quietByWords(p.There.Stream) && quietByWords(p.Back.Stream)) {
			t.Fatalf("PairOk is %v, Quiet is %v, of %#v", impl.PairOk(p), impl.Quiet(p), p)
		}
		if !is {
			if got, did := impl.HappenIn(p, home, a); did || !isZeroPair(got) {
				t.Fatalf("%v, back %v, of the wrong %#v is %#v, %v", a, home, p, got, did)
			}
			continue
		}
		right++
		if _, did := impl.HappenIn(p, home, a); did {
			done++
		}
		checkHappenIn(t, p, a)
	}
	if right < 3000 || right > 17000 || done < 500 {
		t.Fatalf("%d of them are right, %d are done", right, done)
	}
}

func TestNothingPanicsOutOfNewPair(t *testing.T) {
	seed := steps(184)
	for range 20000 {
		var caps []int64
		for range []int{6, 6, 6, 0, 1, 5, 7, 12}[seed.below(8)] {
			caps = append(caps, []int64{1 + seed.below(400), 1 + seed.below(400), someNumber(&seed)}[seed.below(3)])
		}
		roads := []int64{seed.below(7) - 1, someNumber(&seed)}[seed.below(2)]
		w, should := impl.NewWorld(caps, roads)
		if p, is := impl.NewPair(caps, roads); is != should || !samePair(p, pair(w, w)) || impl.PairOk(p) != is {
			t.Fatalf("NewPair(%v, %d) is %#v, %v", caps, roads, p, is)
		}
	}
}

// Written out: "hi" goes there while "you" goes back, and a road closes for both.
func TestAShortPair(t *testing.T) {
	p := newPair(t, []int64{9, 9, 9, 9, 9, 9}, 2)
	does := func(home bool, list ...impl.Act) {
		t.Helper()
		for _, a := range list {
			next, is := impl.HappenIn(p, home, a)
			if !is {
				t.Fatalf("%v, back %v, is not done: %#v", a, home, p)
			}
			p = next
		}
	}
	goes := func(home bool, text string) {
		t.Helper()
		does(home, writeAct(text), endAct())
		for hop := range int64(3) {
			does(home, tellAct(hop, 0), comeAct(hop, 0), sendAct(hop, 0, 0, 9), comeAct(hop, 0))
			if hop < 2 {
				does(home, pumpAct(hop, 9))
			}
		}
		does(home, readAct(9))
		for hop := int64(2); hop >= 0; hop-- {
			does(home, tellAct(hop, 0), comeAct(hop, 0))
		}
	}
	does(true, turnAct(1, 0))
	if p.There.Line.Roads[1].Open || p.Back.Line.Roads[1].Open {
		t.Fatalf("road 1 is Open: %#v", p)
	}
	goes(false, "hi")
	if s := p.There.Stream; s != (impl.Stream{Text: "hi", Read: 2, Ended: true, Seen: true}) || p.Back.Stream != (impl.Stream{}) {
		t.Fatalf("it is %v and %v", s, p.Back.Stream)
	}
	does(false, lookAct())
	checkQuiet(t, "only there", p, false)
	goes(true, "you")
	checkQuiet(t, "before the look", p, false)
	does(true, lookAct())
	checkQuiet(t, "both", p, true)
	if p.There.Stream != quietStream("hi") || p.Back.Stream != quietStream("you") {
		t.Fatalf("it is %v and %v", p.There.Stream, p.Back.Stream)
	}
	does(false, turnAct(1, 1), turnAct(0, 0))
	checkQuiet(t, "a road is closed", p, true)
}
