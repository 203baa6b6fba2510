package tests

import (
	"fmt"
	"slices"
	"strings"
	"sync"
	"testing"

	"loop.example/g00450/impl"
)

const mostRounds = 5000

// inStillness is a copy of a right World in which nothing is under way and road 0 is Open.
func inStillness(w impl.World) impl.World {
	still := world(line(slices.Clone(w.Line.Roads), slices.Clone(w.Line.Hops)...), w.Stream)
	still.Line.Roads[0].Open = true
	for k := range still.Line.Hops {
		still.Line.Hops[k].Way = nil
	}
	return still
}

// roundByHand lets one thing happen behind the other, in the document's order.
func roundByHand(w impl.World, read bool) impl.World {
	happens := func(a impl.Act) { w, _ = impl.Happen(w, a) }
	allCome := func() {
		for hop := range int64(3) {
			for len(w.Line.Hops[hop].Way) > 0 {
				happens(comeAct(hop, 0))
			}
		}
	}
	happens(tellAct(2, 0))
	happens(tellAct(1, 0))
	happens(tellAct(0, 0))
	allCome()
	happens(sendAct(2, 0, w.Line.Hops[2].Giver.Base, 40))
	happens(sendAct(1, 0, w.Line.Hops[1].Giver.Base, 40))
	happens(sendAct(0, 0, w.Line.Hops[0].Giver.Base, 40))
	allCome()
	happens(pumpAct(1, 400))
	happens(pumpAct(0, 400))
	if read {
		happens(readAct(400))
	}
	happens(lookAct())
	return w
}

// calmByHand tells in how many rounds, too, the last one of which changes nothing.
func calmByHand(w impl.World, read bool) (impl.World, int) {
	w = inStillness(w)
	for round := 1; round <= mostRounds; round++ {
		was := w
		if w = roundByHand(w, read); sameWorld(w, was) {
			return w, round
		}
	}
	return w, mostRounds
}

func checkSameWorld(t *testing.T, name string, got, want impl.World) {
	t.Helper()
	if !sameWorld(got, want) {
		t.Fatalf("%s: it is %#v, not %#v", name, got, want)
	}
}

// checkCalm is of any right World, and tells how many rounds the longer one of the two takes by hand.
func checkCalm(t *testing.T, w impl.World) int {
	t.Helper()
	most := 0
	for _, read := range []bool{false, true} {
		name := fmt.Sprintf("read %v", read)
		want, rounds := calmByHand(w, read)
		got := impl.Calm(w, read)
		checkSameWorld(t, name, got, want)
		if !impl.WorldOk(got) || !worldOkByWords(got) {
			t.Fatalf("%s: it is no longer right: %#v", name, got)
		}
		checkSameWorld(t, name+", once more", impl.Calm(got, read), got)
		most = max(most, rounds)
	}
	return most
}

// checkNoCalm is of a World that is not right.
func checkNoCalm(t *testing.T, w impl.World) {
	t.Helper()
	for _, read := range []bool{false, true} {
		if got := impl.Calm(w, read); !isZeroWorld(got) {
			t.Fatalf("read %v: Calm of the wrong %#v is %#v", read, w, got)
		}
	}
	if impl.AllRead(w) {
		t.Fatalf("AllRead of the wrong %#v", w)
	}
}

// desksByWords is of a World whose desks hang together: from the reader's desk on each has what it has room for of all that is left, and the next one goes on from there.
func desksByWords(w impl.World, from int64) impl.World {
	text, all := w.Stream.Text, int64(len(w.Stream.Text))
	hops, at := slices.Clone(w.Line.Hops), w.Stream.Read
	for k := 2; k >= 0; k-- {
		was := hops[k]
		next := min(all, at+was.Taker.Cap)
		kept := min(all, next+was.Giver.Cap)
		x := taker(from+next, text[at:next], was.Taker.Cap, was.Taker.End)
		hops[k] = hop(giver(from+next, text[next:kept], was.Giver.Cap, min(lastPlace, from+at+was.Taker.Cap)), x)
		at = kept
	}
	return world(line(slices.Clone(w.Line.Roads), hops...), w.Stream)
}

// endsByDesks lets the end follow the last byte as far as it comes, and Done come back from the reader's desk.
func endsByDesks(w impl.World, all int64) {
	hops, ends, done := w.Line.Hops, w.Stream.Ended, true
	for k := range hops {
		g, x := &hops[k].Giver, &hops[k].Taker
		g.End = ends
		if ends && g.Bytes == "" {
			x.End = all
		}
		x.Ended = x.Next == x.End
		ends = x.Ended && x.Bytes == ""
	}
	for k := 2; k >= 0; k-- {
		done = done && hops[k].Taker.Ended
		hops[k].Giver.Done = done
	}
}

// calmByWords knows of no rounds: it tells where all must lie at last, in a World that came of a new one. (Of one whose first byte was at the place from, too.)
func calmByWords(w impl.World, from int64, read bool) impl.World {
	w = inStillness(w)
	all := int64(len(w.Stream.Text))
	if read {
		w.Stream.Read = all
	}
	w = desksByWords(w, from)
	endsByDesks(w, from+all)
	w.Stream.Done = w.Stream.Done || w.Line.Hops[0].Giver.Done
	w.Stream.Seen = w.Stream.Seen || read && w.Stream.Ended
	return w
}

// checkCalmToTheLast is of a World that came of a new one: every field, whoever reads.
func checkCalmToTheLast(t *testing.T, w impl.World, from int64) {
	t.Helper()
	still, read := calmByWords(w, from, false), calmByWords(w, from, true)
	checkSameWorld(t, "nobody reads", impl.Calm(w, false), still)
	checkSameWorld(t, "one reads", impl.Calm(w, true), read)
	checkSameWorld(t, "nobody reads, once more", impl.Calm(still, false), still)
	checkSameWorld(t, "one reads, once more", impl.Calm(read, true), read)
	checkSameWorld(t, "one reads later", impl.Calm(still, true), read)
	checkSameWorld(t, "nothing is left to be read", impl.Calm(read, false), read)
	if !impl.Linked(still.Line) || !impl.Linked(read.Line) {
		t.Fatalf("it does not hang together: %#v, %#v", still, read)
	}
}

// calms asks for the promise, by what the player itself wrote and read.
func (p *player) calms(t *testing.T) {
	t.Helper()
	all := int64(len(p.written))
	x := impl.Calm(p.w, true)
	if x.Stream != (impl.Stream{Text: p.written, Read: all, Ended: p.ended, Done: p.ended, Seen: p.ended}) {
		t.Fatalf("of %q, ended %v, it is %#v", p.written, p.ended, x)
	}
	if impl.UnderWay(x) != 0 || !impl.AllRead(x) || impl.AtDesk(x.Line) != "" {
		t.Fatalf("not all is read: %#v", x)
	}
	y := impl.Calm(p.w, false)
	left, room := p.written[len(p.read):], int(p.w.Line.Hops[2].Taker.Cap)
	if desk := impl.AtDesk(y.Line); desk != left[:min(len(left), room)] {
		t.Fatalf("of %q, with room for %d, at the desk is %q", left, room, desk)
	}
	if impl.UnderWay(y) != int64(len(left)) || impl.AllRead(y) != (left == "") {
		t.Fatalf("nobody reads, and of %q left it is %#v", left, y)
	}
	want := p.w.Stream
	want.Done = want.Done || p.ended && len(left) <= room
	if y.Stream != want {
		t.Fatalf("nobody reads, and of %v it is %v", p.w.Stream, y.Stream)
	}
	checkCalmToTheLast(t, p.w, 0)
}

func TestCalmOfANewWorld(t *testing.T) {
	for _, caps := range capsToTry() {
		for roads := int64(1); roads <= 4; roads++ {
			p := &player{w: newWorld(t, caps, roads)}
			want := newLineByWords(caps, roads)
			for k := range want.Hops {
				// They are told how much room there is; nothing else happens.
				want.Hops[k].Giver.Limit = want.Hops[k].Taker.Cap
			}
			checkSameWorld(t, "one reads", impl.Calm(p.w, true), world(want, impl.Stream{}))
			checkSameWorld(t, "nobody reads", impl.Calm(p.w, false), world(want, impl.Stream{}))
		}
	}
}

func capsOfPlays() [][]int64 {
	return [][]int64{{1, 1, 1, 1, 1, 1}, {2, 3, 2, 3, 2, 3}, {20, 10, 10, 10, 10, 20}, {400, 400, 400, 400, 400, 400}, {7, 400, 3, 5, 400, 1}, {400, 1, 400, 1, 400, 9}, {60, 3, 4, 5, 3, 7}, {1, 50, 1, 50, 1, 50}, {5, 4, 90, 2, 1, 300}}
}

// Wherever a play is when it grows calm, from its beginning to its end.
func TestCalmBehindPlays(t *testing.T) {
	for _, caps := range capsOfPlays() {
		for roads := int64(1); roads <= 4; roads++ {
			for _, losing := range []int64{0, 11} {
				seed := steps(1900 + roads*100 + losing + caps[0])
				text := textFrom(0, 10+seed.below(120))
				p := &player{w: newWorld(t, caps, roads)}
				for step := 0; step < 1500 && (!p.w.Stream.Done || !p.w.Stream.Seen); step++ {
					if p.does(t, p.someAct(&seed, text, losing)); seed.below(120) == 0 {
						p.calms(t)
					}
				}
				p.calms(t)
			}
		}
	}
}

// Behind a calm the play goes on, and what comes of it is one road still; that goes to the end.
func TestPlaysGoOnBehindACalm(t *testing.T) {
	for _, caps := range capsOfPlays() {
		for roads := int64(1); roads <= 4; roads++ {
			seed := steps(1950 + roads)
			text := textFrom(0, 5+seed.below(60))
			p := &player{w: newWorld(t, caps, roads)}
			for step := 0; !p.w.Stream.Done || !p.w.Stream.Seen; step++ {
				if step > 200000 {
					t.Fatalf("it never ends: %#v", p.w)
				}
				p.does(t, p.someAct(&seed, text, 6))
				if seed.below(60) == 0 {
					p.w = impl.Calm(p.w, seed.below(3) == 0)
					p.read = p.written[:p.w.Stream.Read]
					p.stands(t)
					p.counts(t)
				}
			}
			p.calms(t)
		}
	}
}

// All that a little World can come to; of the many some, that are far apart.
func TestCalmInEveryOrder(t *testing.T) {
	for _, c := range []struct {
		states []player
		each   int
	}{{everyState(t, "", 1, 100000), 7}, {everyState(t, "a", 1, 100000), 97}, {everyState(t, "ab", 2, 8000), 11}} {
		ended := 0
		for k := 0; k < len(c.states); k += c.each {
			if c.states[k].calms(t); c.states[k].ended {
				ended++
			}
		}
		if len(c.states)/c.each < 100 {
			t.Fatalf("only %d states, %d at their end", len(c.states), ended)
		}
	}
}

// filledWorld has desks that hold as many as are asked, as they lie once nobody reads; what was read lies ahead of them, from the place from on.
func filledWorld(caps []int64, held [desksOfLine]int64, read, from int64) impl.World {
	text := textFrom(0, read+sumOf(held[:]))
	l := newLineByWords(caps, 2)
	at := read
	for k := 2; k >= 0; k-- {
		next := at + held[2*k+1]
		kept := next + held[2*k]
		x := taker(from+next, text[at:next], caps[2*k+1], -1)
		l.Hops[k] = hop(giver(from+next, text[next:kept], caps[2*k], from+next), x)
		at = kept
	}
	return world(l, impl.Stream{Text: text, Read: read})
}

func heldBy(caps []int64, most int64) [desksOfLine]int64 {
	var held [desksOfLine]int64
	for k := desksOfLine - 1; k >= 0; k-- {
		held[k] = min(caps[k], most)
		most -= held[k]
	}
	return held
}

func endedWorld(w impl.World) impl.World {
	w.Stream.Ended, w.Line.Hops[0].Giver.End = true, true
	return w
}

// Desks that are full: what comes byte by byte takes long, and no one takes as many rounds as there may be.
func TestCalmOfFullWorlds(t *testing.T) {
	most := 0
	for _, caps := range [][]int64{{400, 400, 400, 400, 400, 400}, {400, 400, 400, 400, 400, 1}, {400, 400, 400, 400, 1, 400}, {400, 400, 400, 400, 1, 1}, {400, 400, 400, 1, 1, 1}, {1, 400, 1, 400, 1, 400}, {400, 1, 400, 1, 400, 1}, {400, 1, 1, 1, 1, 1}, {1, 1, 1, 1, 1, 1}, {41, 40, 39, 41, 40, 39}} {
		w := filledWorld(caps, heldBy(caps, mostText), 0, 0)
		for _, w := range []impl.World{w, endedWorld(filledWorld(caps, heldBy(caps, mostText), 0, 0))} {
			checkCalmToTheLast(t, w, 0)
			most = max(most, checkCalm(t, w))
		}
	}
	if most < 3000 || most >= mostRounds {
		t.Fatalf("the longest takes %d rounds", most)
	}
}

// The same at other places, up to MaxPlace: from there on nobody can be told of more room.
func TestCalmUpToMaxPlace(t *testing.T) {
	seed := steps(193)
	for _, caps := range capsOfPlays() {
		for range 3 {
			var held [desksOfLine]int64
			for k := range held {
				held[k] = seed.below(min(caps[k], 60) + 1)
			}
			read := seed.below(30)
			all := read + sumOf(held[:])
			for _, from := range []int64{0, 1, 5000, lastPlace - all - 1, lastPlace - all} {
				for _, w := range []impl.World{filledWorld(caps, held, read, from), endedWorld(filledWorld(caps, held, read, from))} {
					checkCalmToTheLast(t, w, from)
					checkCalm(t, w)
				}
			}
		}
	}
	held := [desksOfLine]int64{3, 0, 2, 0, 1, 0}
	w := impl.Calm(endedWorld(filledWorld(plainCaps(), held, 0, lastPlace-6)), true)
	done := func(give, take int64) impl.Hop {
		return hop(doneGiver(lastPlace, give, lastPlace), taker(lastPlace, "", take, lastPlace))
	}
	checkSameWorld(t, "written out", w, world(line(roads(openRoad(1, 0, 0), openRoad(2, 0, 0)), done(20, 10), done(10, 10), done(10, 20)), quietStream(textFrom(0, 6))))
}

// Right Worlds that came of no new one: their desks hang together or not, their bytes are those of the Text or not.
func TestCalmByHand(t *testing.T) {
	for _, w := range someWorlds() {
		checkCalm(t, w)
	}
	streams := []impl.Stream{{Text: "abcdefghijkl", Read: 2}, {}, {Text: "abcdefghi", Read: 9, Ended: true}, {Text: "abcdcd", Read: 2, Ended: true}, {Text: textFrom(0, 2000), Read: 30}}
	for k, l := range rightLines() {
		checkCalm(t, world(l, streams[k%len(streams)]))
	}
	for _, from := range shiftsOfPlaces() {
		for _, s := range []impl.Stream{{Text: textFrom(from, 400)}, {Text: textFrom(from+14, 56)}, {Text: textFrom(from+14, 56), Ended: true}, {Text: textFrom(from, 70), Read: 14}} {
			checkCalm(t, world(linkedLine(from), s))
		}
	}
}

func TestCalmOfSmallHopsByHand(t *testing.T) {
	seed := steps(194)
	all := smallHops(3)
	read := int64(0)
	for range 3000 {
		one := func() impl.Hop { return all[seed.below(int64(len(all)))] }
		w := world(line(manyRoads(1), one(), one(), one()), impl.Stream{Text: []string{"aab", "ba", "abab", "bbbb"}[seed.below(4)], Ended: seed.below(2) == 0})
		checkCalm(t, w)
		read = max(read, impl.Calm(w, true).Stream.Read)
	}
	if read < 4 {
		t.Fatalf("at most %d are read", read)
	}
}

// bytesAt are those that a hop's Giver has, and of which a Taker of this Cap has the first ones; the hops ahead have nothing.
func bytesAt(bytes string, limit, came, room int64, s impl.Stream) impl.World {
	all := int64(len(bytes))
	still := hop(giver(all, "", 9, all), taker(all, "", 9, -1))
	g := giver(0, bytes, 400, limit)
	return world(line(manyRoads(1), still, still, hop(g, taker(came, bytes[:came], room, -1))), s)
}

// Where the Text has another byte at a place, a read goes as far as all that lies at the desk is what stands there; so it tells how much came at once.
func TestCalmGoesRoundByRound(t *testing.T) {
	bytes := textFrom(0, 100)
	for _, c := range []struct {
		name              string
		limit, came, room int64
		other             int
		read              int64
	}{
		{"MaxBytes come at once", 0, 0, 100, 39, 0},
		{"no more than MaxBytes come at once", 0, 0, 100, 40, 40},
		{"and MaxBytes again", 0, 0, 100, 79, 40},
		{"and once more", 0, 0, 100, 80, 80},
		{"then the last ones", 0, 0, 100, 99, 80},
		{"before it is sent it is told how far one may", 10, 0, 100, 30, 0},
		{"before it is sent it is told what came", 10, 10, 100, 49, 0},
		{"what is sent begins there", 10, 10, 100, 50, 50},
		{"what was at the desk is not read ahead of all", 10, 10, 100, 10, 0},
		{"no more than there is room for", 0, 0, 7, 6, 0},
		{"and as much again", 0, 0, 7, 7, 7},
		{"and again", 0, 0, 7, 13, 7},
		{"all that is there is read at once", 100, 100, 400, 99, 0},
	} {
		w := bytesAt(bytes, c.limit, c.came, c.room, impl.Stream{Text: otherwise(bytes, c.other, 1)})
		checkCalm(t, w)
		got := impl.Calm(w, true)
		if got.Stream.Read != c.read {
			t.Errorf("%s: Read is %d", c.name, got.Stream.Read)
		}
		if desk := impl.AtDesk(got.Line); desk != bytes[c.read:min(100, c.read+c.room)] {
			t.Errorf("%s: at the desk is %q", c.name, desk)
		}
	}
	full := textFrom(0, 400)
	if got := impl.Calm(bytesAt(full, 400, 400, 400, impl.Stream{Text: full}), true); got.Stream.Read != 400 {
		t.Errorf("of MaxCap at the desk %d are read", got.Stream.Read)
	}
	if got := impl.Calm(bytesAt(full, 400, 400, 400, impl.Stream{Text: otherwise(full, 399, 1)}), true); got.Stream.Read != 0 {
		t.Errorf("of MaxCap at the desk, the last one another, %d are read", got.Stream.Read)
	}
}

// withLetters has Letters of all kinds that would change each desk, were they to come.
func withLetters(w impl.World) impl.World {
	w = inStillness(w)
	for k := range w.Line.Hops {
		at := w.Line.Hops[k].Taker.Next
		behind := behindKept(w.Line.Hops[k].Giver)
		w.Line.Hops[k].Way = []impl.Letter{
			forth(0, min(at, lastPlace-2), "??", false), back(0, behind, lastPlace, true), forth(0, min(at+1, lastPlace-1), "?", true),
			back(0, at, min(at+390, lastPlace), false), forth(0, at, "", true),
		}
	}
	return w
}

func TestWhatIsUnderWayIsGone(t *testing.T) {
	list := append(someWorlds(), filledWorld(plainCaps(), heldBy(plainCaps(), 30), 3, 0), endedWorld(filledWorld(plainCaps(), heldBy(plainCaps(), 90), 0, 0)))
	for _, w := range list {
		for _, read := range []bool{false, true} {
			want := impl.Calm(inStillness(w), read)
			checkSameWorld(t, "with Letters", impl.Calm(withLetters(w), read), want)
			checkSameWorld(t, "as it was", impl.Calm(w, read), want)
			for k := range want.Line.Hops {
				if len(want.Line.Hops[k].Way) != 0 {
					t.Fatalf("in hop %d is under way %v", k, want.Line.Hops[k].Way)
				}
			}
		}
	}
	// Written out: a Letter on each road and as many as there may be, and nothing comes of them.
	w := newWorldByWords()
	w.Line.Hops[0].Way = slices.Repeat([]impl.Letter{back(0, 0, 400, false)}, 30)
	w.Line.Hops[1].Way = []impl.Letter{forth(1, 0, "x", true), forth(0, 1, "y", false)}
	w.Line.Hops[2].Way = []impl.Letter{forth(0, 0, "z", true)}
	told := func(give, take int64) impl.Hop { return hop(giver(0, "", give, take), taker(0, "", take, -1)) }
	want := world(line(roads(openRoad(1, 0, 0), openRoad(2, 0, 0)), told(20, 10), told(10, 10), told(10, 20)), impl.Stream{})
	checkSameWorld(t, "one reads", impl.Calm(w, true), want)
	checkSameWorld(t, "nobody reads", impl.Calm(w, false), want)
}

func TestRoadZeroIsOpenInCalm(t *testing.T) {
	for n := 1; n <= mostRoads; n++ {
		for bits := range 1 << n {
			for _, w := range []impl.World{filledWorld(plainCaps(), heldBy(plainCaps(), 30), 3, 0), endedWorld(filledWorld(plainCaps(), heldBy(plainCaps(), 90), 0, 0)), newWorldByWords()} {
				w.Line.Roads = shutAndOpen(n, bits)
				roads := shutAndOpen(n, bits|1)
				if !roads[0].Open || !slices.Equal(roads[1:], w.Line.Roads[1:]) {
					t.Fatalf("the roads %v are not as they should be", roads)
				}
				checkCalmToTheLast(t, w, 0)
				for _, read := range []bool{false, true} {
					if got := impl.Calm(w, read); !slices.Equal(got.Line.Roads, roads) {
						t.Fatalf("of the roads %v there are %v", w.Line.Roads, got.Line.Roads)
					}
				}
			}
		}
	}
	// What a road counts stays, too: nothing is Used.
	for _, list := range rightRoads() {
		w := world(line(list, newLineByWords(plainCaps(), 1).Hops...), impl.Stream{})
		w, _ = impl.Happen(w, writeAct("hello"))
		want := slices.Clone(list)
		want[0].Open = true
		if got := impl.Calm(w, true); !slices.Equal(got.Line.Roads, want) || got.Stream.Read != 5 {
			t.Fatalf("of the roads %v there are %v, and read is %d", list, got.Line.Roads, got.Stream.Read)
		}
	}
}

// A World in which all is done already stays as it is, but for Letters and for road 0.
func TestCalmWhereAllIsDone(t *testing.T) {
	for _, caps := range capsOfPlays() {
		for _, text := range []string{"", "a", textFrom(0, 50)} {
			done := impl.Calm(endedWorld(filledWorld(caps, heldBy(caps, int64(len(text))), 0, 0)), true)
			if !done.Stream.Done || !done.Stream.Seen || !impl.AllRead(done) {
				t.Fatalf("it is not done: %#v", done)
			}
			for _, w := range []impl.World{done, withLetters(done)} {
				checkSameWorld(t, "one reads", impl.Calm(w, true), done)
				checkSameWorld(t, "nobody reads", impl.Calm(w, false), done)
				w.Line.Roads = roads(closedRoad(1, 0, 0), closedRoad(2, 0, 0))
				want := world(line(roads(openRoad(1, 0, 0), closedRoad(2, 0, 0)), done.Line.Hops...), done.Stream)
				checkSameWorld(t, "one reads, the road was closed", impl.Calm(w, true), want)
				checkSameWorld(t, "nobody reads, the road was closed", impl.Calm(w, false), want)
			}
		}
	}
}

// The end is told, and nothing is left but to look, or to read nothing.
func TestCalmTellsBothOfTheEnd(t *testing.T) {
	for _, letters := range []int{0, 30} {
		w := toldWorld(manyRoads(3), letters)
		if got := impl.Calm(w, true).Stream; got != (impl.Stream{Text: w.Stream.Text, Read: 9, Ended: true, Done: true, Seen: true}) {
			t.Errorf("one reads, and it is %v", got)
		}
		if got := impl.Calm(w, false).Stream; got != (impl.Stream{Text: w.Stream.Text, Read: 9, Ended: true, Done: true}) {
			t.Errorf("nobody reads, and it is %v", got)
		}
	}
}

func checkAllRead(t *testing.T, w impl.World, want bool) {
	t.Helper()
	if got := impl.AllRead(w); got != want || !impl.WorldOk(w) {
		t.Fatalf("AllRead of %#v is %v", w, got)
	}
}

func TestAllRead(t *testing.T) {
	l := newLineByWords(plainCaps(), 2)
	for all := range int64(50) {
		for read := range all + 1 {
			for _, s := range flagged(textFrom(0, all), read) {
				if streamOkByWords(s) {
					checkAllRead(t, world(l, s), read == all)
				}
			}
		}
	}
	// Wherever the first byte is that waits.
	for read := range int64(mostText + 1) {
		checkAllRead(t, world(l, impl.Stream{Text: textFrom(0, mostText), Read: read}), read == mostText)
	}
	for _, text := range textsToBeRead() {
		checkAllRead(t, world(l, quietStream(text)), true)
		checkAllRead(t, world(l, impl.Stream{Text: text, Read: int64(len(text))}), true)
		checkAllRead(t, world(l, impl.Stream{Text: text, Ended: true}), text == "")
	}
	checkAllRead(t, newWorldByWords(), true)
}

// Nothing but the Stream is asked, whatever is at the desks or under way.
func TestAllReadIsOfTheStream(t *testing.T) {
	for _, l := range append(rightLines(), linkedLine(7), allTold(manyRoads(2), 30)) {
		checkAllRead(t, world(l, impl.Stream{}), true)
		checkAllRead(t, world(l, impl.Stream{Text: "abc", Read: 3}), true)
		checkAllRead(t, world(l, impl.Stream{Text: "abc", Read: 2}), false)
		checkAllRead(t, world(l, impl.Stream{Text: "abc", Ended: true}), false)
	}
}

// Whoever else asks at the same time, and however often: the answer is the same.
func TestAllReadOfManyAtOnce(t *testing.T) {
	l := newLineByWords(plainCaps(), 2)
	wrong := make([]int, 16)
	var asking sync.WaitGroup
	for k := range wrong {
		asking.Add(1)
		go func() {
			defer asking.Done()
			for read := range int64(501) {
				if impl.AllRead(world(l, impl.Stream{Text: strings.Repeat("x", 500), Read: read})) != (read == 500) {
					wrong[k]++
				}
			}
		}()
	}
	asking.Wait()
	if !slices.Equal(wrong, make([]int, 16)) {
		t.Fatalf("it is wrong so often: %v", wrong)
	}
}

func TestNoCalmOfWrongWorlds(t *testing.T) {
	read := impl.Stream{Text: "abc", Read: 3}
	checkNoCalm(t, impl.World{})
	checkNoCalm(t, world(impl.Line{}, read))
	checkNoCalm(t, world(line(manyRoads(2), impl.Hop{}, impl.Hop{}, impl.Hop{}), read))
	for _, wrong := range wrongHops() {
		for k := range 3 {
			w := fullWorld(manyRoads(4))
			w.Line.Hops[k] = alongRoads(wrong, 1)
			checkNoCalm(t, w)
			w.Stream = read
			checkNoCalm(t, w)
		}
	}
	for _, wrong := range wrongRoads() {
		checkNoCalm(t, world(line(wrong, fullLine(manyRoads(1)).Hops...), read))
	}
	for n := range 6 {
		if n != 3 {
			checkNoCalm(t, world(line(manyRoads(2), slices.Repeat(fullLine(manyRoads(1)).Hops[:1], n)...), read))
		}
	}
	for _, wrong := range wrongStreams() {
		checkNoCalm(t, world(newLineByWords(plainCaps(), 2), wrong))
	}
}

// Wrong by nothing but what calm would take away.
func TestNoCalmOfWrongLetters(t *testing.T) {
	for k := range 3 {
		for _, wrong := range wrongLetters() {
			w := newWorldByWords()
			w.Line.Hops[k].Way = []impl.Letter{wrong}
			checkNoCalm(t, w)
		}
		for _, road := range []int64{-1, 1, 2, 3, 4} {
			if !isAlong(k, road, 1) {
				w := world(newLineByWords(plainCaps(), 1), impl.Stream{})
				w.Line.Hops[k].Way = []impl.Letter{back(road, 0, 9, false)}
				checkNoCalm(t, w)
			}
		}
		w := newWorldByWords()
		w.Line.Hops[k].Way = slices.Repeat([]impl.Letter{back(0, 0, 9, false)}, 31)
		checkNoCalm(t, w)
	}
}

func TestCalmSharesNothing(t *testing.T) {
	for _, w := range append(someWorlds(), filledWorld(plainCaps(), heldBy(plainCaps(), 30), 3, 0)) {
		for _, read := range []bool{false, true} {
			checkOwnWorld(t, "Calm", w, func(w impl.World) impl.World { return impl.Calm(w, read) })
			one, other := impl.Calm(w, read), impl.Calm(w, read)
			want := world(wholeOf(other.Line), other.Stream)
			scratchLine(one.Line)
			checkSameWorld(t, "behind an answer that is written over", world(wholeOf(other.Line), other.Stream), want)
			// Of a World in which nothing changes any more the answer is new, too.
			checkOwnWorld(t, "Calm of calm", other, func(w impl.World) impl.World { return impl.Calm(w, read) })
		}
		checkOwnWorld(t, "AllRead", w, func(w impl.World) impl.World {
			impl.AllRead(w)
			return impl.World{}
		})
	}
}

func TestNoCalmKeepsWhatItIsGiven(t *testing.T) {
	for k, wrong := range wrongHops() {
		if k%4 == 0 {
			w := world(lineAlong(manyRoads(4), fullHops()[0], wrong, fullHops()[2]), impl.Stream{Text: "abcdefghijkl", Read: 12})
			checkOwnWorld(t, "a wrong World", w, func(w impl.World) impl.World {
				impl.AllRead(w)
				impl.Calm(w, false)
				return impl.Calm(w, true)
			})
		}
	}
}

// Whatever is given: it answers, and where the World is wrong it is the one fixed answer.
func TestNothingPanicsOutOfACalm(t *testing.T) {
	seed := steps(195)
	right := 0
	for range 4000 {
		w := someWorld(&seed)
		if !impl.LineOk(w.Line) || !impl.StreamOk(w.Stream) {
			checkNoCalm(t, w)
			continue
		}
		right++
		checkCalm(t, w)
		checkAllRead(t, w, w.Stream.Read == int64(len(w.Stream.Text)))
	}
	if right < 1000 || right > 3800 {
		t.Fatalf("%d of them are right", right)
	}
}

// Written out: four bytes, a reader's desk with room for three, and one who reads only later.
func TestAShortCalm(t *testing.T) {
	w := newWorld(t, []int64{9, 8, 7, 6, 5, 3}, 2)
	w = impl.Play(w, []impl.Act{writeAct("four"), tellAct(0, 0), comeAct(0, 0), sendAct(0, 0, 0, 2), endAct(), turnAct(0, 0), turnAct(1, 0)})
	open := roads(openRoad(1, 0, 0), closedRoad(2, 0, 0))
	still := world(line(open,
		hop(endedGiver(4, "", 9, 12), taker(4, "", 8, 4)),
		hop(endedGiver(4, "", 7, 10), taker(4, "", 6, 4)),
		hop(endedGiver(3, "r", 5, 3), taker(3, "fou", 3, -1))), impl.Stream{Text: "four", Ended: true})
	checkSameWorld(t, "nobody reads", impl.Calm(w, false), still)
	read := world(line(open,
		hop(doneGiver(4, 9, 12), taker(4, "", 8, 4)),
		hop(doneGiver(4, 7, 10), taker(4, "", 6, 4)),
		hop(doneGiver(4, 5, 7), taker(4, "", 3, 4))), quietStream("four"))
	checkSameWorld(t, "one reads", impl.Calm(w, true), read)
	checkSameWorld(t, "one reads later", impl.Calm(still, true), read)
	// One byte is read, so there is room for the last one: the writer is told, though three are not read.
	some, _ := impl.Happen(still, readAct(1))
	got := impl.Calm(some, false)
	if got.Stream != (impl.Stream{Text: "four", Read: 1, Ended: true, Done: true}) || impl.AtDesk(got.Line) != "our" || impl.AllRead(got) {
		t.Errorf("behind one byte it is %v, %q", got.Stream, impl.AtDesk(got.Line))
	}
}
