package tests

import (
	"math"
	"slices"
	"testing"

	"loop.example/g00450/impl"
)

// What is told of a Line: of which hops the Taker may say Done, whether the writer was told, whether the reader is at the end.
type told struct {
	may            [3]bool
	writer, reader bool
}

// toldByWords asks one thing of the document behind the other.
func toldByWords(l impl.Line) told {
	if !lineOkByWords(l) {
		return told{}
	}
	first, middle, last := l.Hops[0], l.Hops[1], l.Hops[2]
	return told{
		may: [3]bool{
			first.Taker.Ended && middle.Giver.Done,
			middle.Taker.Ended && last.Giver.Done,
			last.Taker.Ended,
		},
		writer: first.Giver.Done,
		reader: last.Taker.Ended && last.Taker.Bytes == "",
	}
}

// noHopsOfALine are out of range, many of them such that they come into it when cut to fewer bits, or when counted by desks.
func noHopsOfALine() []int64 {
	list := []int64{-1, -2, -3, -4, 3, 4, 5, 6, 7, 255, 256, 257, 258, 65536, 65537, lastPlace, math.MaxInt32, math.MinInt32, round, round + 1, round + 2, -round, -round + 1, -round + 2}
	return append(list, math.MinInt64, math.MinInt64+1, math.MinInt64+2, math.MaxInt64, math.MaxInt64-1, math.MaxInt64-2, 1<<62, 1<<62+1, 1<<62+2, -1<<62, -1<<62+1)
}

func checkTold(t *testing.T, l impl.Line, want told) {
	t.Helper()
	var got told
	for h := range got.may {
		got.may[h] = impl.MayTell(l, int64(h))
	}
	got.writer, got.reader = impl.WriterDone(l), impl.ReaderAtEnd(l)
	if got != want {
		t.Fatalf("of %#v is told %v, not %v", l, got, want)
	}
}

func checkNoHopsTold(t *testing.T, l impl.Line) {
	t.Helper()
	for _, h := range noHopsOfALine() {
		if impl.MayTell(l, h) {
			t.Fatalf("MayTell of hop %d of %#v", h, l)
		}
	}
}

func checkNothingTold(t *testing.T, l impl.Line) {
	t.Helper()
	checkTold(t, l, told{})
	checkNoHopsTold(t, l)
}

// A giverAt is a Giver, and whether it is Done.
type giverAt struct {
	g    impl.Giver
	done bool
}

func giversAt() []giverAt {
	return []giverAt{
		{giver(0, "", 9, 0), false},
		{giver(7, "hi", 9, 9), false},
		{endedGiver(7, "hi", 9, 9), false},
		{endedGiver(9, "", 9, 9), false},
		{doneGiver(9, 9, 9), true},
	}
}

// A takerAt is a Taker, and whether it is Ended and has no Bytes left.
type takerAt struct {
	x            impl.Taker
	ended, empty bool
}

func takersAt() []takerAt {
	return []takerAt{
		{taker(0, "", 9, -1), false, true},
		{taker(7, "fg", 9, -1), false, false},
		{taker(7, "", 9, 8), false, true},
		{taker(7, "", 9, 9, part(8, "i")), false, true},
		{taker(9, "i", 9, 9), true, false},
		{taker(9, "", 9, 9), true, true},
	}
}

func eachThree[T any](list []T, call func(one [3]T)) {
	for _, first := range list {
		for _, middle := range list {
			for _, last := range list {
				call([3]T{first, middle, last})
			}
		}
	}
}

// Each state of each of the six desks beside each of the others.
func TestToldInEveryStateOfTheEnds(t *testing.T) {
	eachThree(giversAt(), func(g [3]giverAt) {
		eachThree(takersAt(), func(x [3]takerAt) {
			l := line(manyRoads(2), hop(g[0].g, x[0].x), hop(g[1].g, x[1].x), hop(g[2].g, x[2].x))
			want := told{
				may:    [3]bool{x[0].ended && g[1].done, x[1].ended && g[2].done, x[2].ended},
				writer: g[0].done,
				reader: x[2].ended && x[2].empty,
			}
			checkTold(t, l, want)
			if impl.MayTell(l, -1) || impl.MayTell(l, 3) {
				t.Fatalf("MayTell of a hop that is not there: %#v", l)
			}
		})
	})
}

// The promise by itself: before the last hop Done is told only where the next Giver is Done, and where it is, and the Taker Ended, it is told.
func TestDoneIsToldOnlyWhenTheNextIs(t *testing.T) {
	for _, l := range rightLines() {
		for h := range int64(2) {
			for _, next := range []impl.Giver{giver(7, "hi", 9, 9), giver(7, "", 9, 9), endedGiver(7, "hi", 9, 9), endedGiver(7, "", 9, 9)} {
				l.Hops[h].Taker, l.Hops[h+1].Giver = taker(7, "fg", 9, 7), next
				if impl.MayTell(l, h) {
					t.Fatalf("hop %d tells Done, and the next is not: %#v", h, l)
				}
			}
			l.Hops[h+1].Giver = doneGiver(7, 9, 9)
			if !impl.MayTell(l, h) {
				t.Fatalf("hop %d may not tell: %#v", h, l)
			}
			l.Hops[h].Taker = taker(7, "fg", 9, 8)
			if impl.MayTell(l, h) {
				t.Fatalf("hop %d tells Done, and is not Ended: %#v", h, l)
			}
		}
	}
}

func TestToldOfRightLines(t *testing.T) {
	for _, l := range rightLines() {
		checkTold(t, l, toldByWords(l))
		checkNoHopsTold(t, l)
	}
}

func TestNothingToldOfANewLine(t *testing.T) {
	for _, caps := range capsToTry()[:20] {
		for roads := int64(1); roads <= 4; roads++ {
			checkNothingTold(t, newLine(t, caps, roads))
		}
	}
}

// allTold is a Line in which each answer is true, with as many under way as are asked.
func allTold(roads []impl.Road, letters int) impl.Line {
	done := hop(doneGiver(9, 9, 12), taker(9, "", 9, 9), manyLetters(letters)...)
	return lineAlong(roads, done, done, done)
}

func everything() told {
	return told{may: [3]bool{true, true, true}, writer: true, reader: true}
}

func TestAllTold(t *testing.T) {
	for _, l := range rightRoads() {
		for _, letters := range []int{0, 1, 29, 30} {
			checkTold(t, allTold(l, letters), everything())
			checkNoHopsTold(t, allTold(l, letters))
		}
	}
}

// Takers that are Ended one behind the other, as they are where bytes come along.
func TestToldAsTheEndGoesOn(t *testing.T) {
	l := newLine(t, []int64{20, 10, 10, 10, 10, 20}, 2)
	for h := range 3 {
		l.Hops[h].Taker = taker(5, "", 10, 5)
		checkTold(t, l, told{may: [3]bool{2: h == 2}, reader: h == 2})
	}
	l.Hops[2].Taker = taker(5, "hello", 20, 5)
	checkTold(t, l, told{may: [3]bool{2: true}})
	l.Hops[2].Giver = doneGiver(5, 10, 5)
	checkTold(t, l, told{may: [3]bool{1: true, 2: true}})
	l.Hops[1].Giver = doneGiver(5, 10, 5)
	checkTold(t, l, told{may: [3]bool{true, true, true}})
	l.Hops[0].Giver = doneGiver(5, 20, 5)
	checkTold(t, l, told{may: [3]bool{true, true, true}, writer: true})
	l.Hops[2].Taker, _ = impl.TakenAway(l.Hops[2].Taker, 4)
	checkTold(t, l, told{may: [3]bool{true, true, true}, writer: true})
	l.Hops[2].Taker, _ = impl.TakenAway(l.Hops[2].Taker, 1)
	checkTold(t, l, everything())
}

// One desk is changed, and only what the document tells by that desk changes.
func TestEachDeskTellsItsOwn(t *testing.T) {
	for h := range 3 {
		l := allTold(manyRoads(3), 30)
		l.Hops[h].Giver.Done = false
		want := everything()
		if h == 0 {
			want.writer = false
		} else {
			want.may[h-1] = false
		}
		checkTold(t, l, want)

		for _, x := range []impl.Taker{taker(9, "", 9, -1), taker(8, "", 9, 9), taker(9, "i", 9, -1), taker(8, "", 9, 10, part(9, "j"))} {
			l, want = allTold(manyRoads(3), 30), everything()
			l.Hops[h].Taker, want.may[h] = x, false
			want.reader = h != 2
			checkTold(t, l, want)
		}

		l, want = allTold(manyRoads(3), 30), everything()
		l.Hops[h].Taker = taker(9, "hi", 9, 9)
		want.reader = h != 2
		checkTold(t, l, want)
	}
}

func TestReaderAtEndOfNamedCases(t *testing.T) {
	for _, c := range []struct {
		name        string
		x           impl.Taker
		may, reader bool
	}{
		{"new", taker(0, "", 9, -1), false, false},
		{"no Bytes, not Ended", taker(7, "", 9, -1), false, false},
		{"no Bytes, one missing", taker(7, "", 9, 8), false, false},
		{"no Bytes, the last one in Parts", taker(7, "", 9, 9, part(8, "i")), false, false},
		{"Bytes, not Ended", taker(7, "g", 9, -1), false, false},
		{"Bytes, one missing", taker(7, "g", 9, 8), false, false},
		{"Ended, one left", taker(7, "g", 9, 7), true, false},
		{"Ended, one of Cap 1 left", taker(7, "g", 1, 7), true, false},
		{"Ended, a byte 0 left", taker(7, "\x00", 9, 7), true, false},
		{"Ended, MaxCap left", taker(400, textFrom(0, 400), 400, 400), true, false},
		{"Ended, none left", taker(7, "", 9, 7), true, true},
		{"Ended at 0", taker(0, "", 9, 0), true, true},
		{"Ended at MaxPlace, some left", taker(lastPlace, "yz", 9, lastPlace), true, false},
		{"Ended at MaxPlace, none left", taker(lastPlace, "", 9, lastPlace), true, true},
		{"Ended where it isn't", impl.Taker{Next: 7, Cap: 9, End: 8, Ended: true}, false, false},
		{"Ended without an end", impl.Taker{Next: 7, Cap: 9, End: -1, Ended: true}, false, false},
		{"at its end, not Ended", impl.Taker{Next: 7, Cap: 9, End: 7}, false, false},
	} {
		l := fullLine(manyRoads(4))
		l.Hops[2].Taker = c.x
		if may, reader := impl.MayTell(l, 2), impl.ReaderAtEnd(l); may != c.may || reader != c.reader {
			t.Errorf("%s: MayTell is %v, ReaderAtEnd %v", c.name, may, reader)
		}
	}
}

func TestWriterDoneOfNamedCases(t *testing.T) {
	for _, c := range []struct {
		name string
		g    impl.Giver
		want bool
	}{
		{"new", giver(0, "", 9, 0), false},
		{"not at its End", giver(7, "hi", 9, 9), false},
		{"not at its End, no Bytes", giver(7, "", 9, 9), false},
		{"at its End, Bytes", endedGiver(7, "hi", 9, 9), false},
		{"at its End, no Bytes", endedGiver(7, "", 9, 9), false},
		{"Done", doneGiver(7, 9, 9), true},
		{"Done at 0", doneGiver(0, 1, 0), true},
		{"Done at MaxPlace", doneGiver(lastPlace, 400, lastPlace), true},
		{"Done, not at its End", impl.Giver{Base: 7, Cap: 9, Limit: 9, Done: true}, false},
		{"Done, with Bytes", impl.Giver{Base: 7, Bytes: "h", Cap: 9, Limit: 9, End: true, Done: true}, false},
	} {
		l := fullLine(manyRoads(4))
		l.Hops[0].Giver = c.g
		if got := impl.WriterDone(l); got != c.want {
			t.Errorf("%s: WriterDone is %v", c.name, got)
		}
		l = allTold(manyRoads(4), 30)
		l.Hops[0].Giver = c.g
		if got := impl.WriterDone(l); got != c.want {
			t.Errorf("%s, all others told: WriterDone is %v", c.name, got)
		}
	}
}

func TestMayTellOfHopsThatAreNotThere(t *testing.T) {
	for n := range 5 {
		l := allTold(manyRoads(4), 7)
		l.Hops = slices.Repeat(l.Hops[:1], n)
		if n == 3 {
			checkTold(t, l, everything())
			checkNoHopsTold(t, l)
		} else {
			checkNothingTold(t, l)
		}
	}
}

// Of what is told in allTold nothing is told any more, once something in it is wrong.
func TestNothingToldOfWrongLines(t *testing.T) {
	for k := range 3 {
		for _, wrong := range wrongHops() {
			l := allTold(manyRoads(4), 30)
			l.Hops[k] = alongRoads(wrong, 1)
			checkNothingTold(t, l)
		}
		for _, wrong := range slices.Concat(wrongGivers(), spoiltGivers(doneGiver(9, 9, 12))) {
			l := allTold(manyRoads(4), 30)
			l.Hops[k].Giver = wrong
			checkNothingTold(t, l)
		}
		for _, wrong := range slices.Concat(wrongTakers(), spoiltTakers(taker(9, "", 9, 9))) {
			l := allTold(manyRoads(4), 30)
			l.Hops[k].Taker = wrong
			checkNothingTold(t, l)
		}
		for _, wrong := range wrongLetters() {
			l := allTold(manyRoads(4), 0)
			l.Hops[k].Way = []impl.Letter{wrong}
			checkNothingTold(t, l)
		}
	}
	for _, wrong := range wrongRoads() {
		checkNothingTold(t, line(wrong, allTold(manyRoads(1), 30).Hops...))
		checkNothingTold(t, line(wrong, allTold(manyRoads(1), 0).Hops...))
	}
	checkNothingTold(t, impl.Line{})
	checkNothingTold(t, impl.Line{Roads: manyRoads(2)})
	checkNothingTold(t, impl.Line{Hops: allTold(manyRoads(2), 0).Hops})
	checkNothingTold(t, line(manyRoads(2), impl.Hop{}, impl.Hop{}, impl.Hop{}))
}

func TestNothingToldWithALetterOnNoRoad(t *testing.T) {
	for count := 1; count <= mostRoads; count++ {
		for k := range 3 {
			for _, road := range append(noRoads(), 0, 1, 2, 3) {
				for _, letter := range lettersOfEachKind(road) {
					l := allTold(manyRoads(count), 29)
					l.Hops[k].Way = wayAnd(l.Hops[k].Way, letter)
					if isAlong(k, road, count) {
						checkTold(t, l, everything())
					} else {
						checkNothingTold(t, l)
					}
				}
			}
		}
	}
}

// inOrder asks for what follows where Done was only said as it may be: who is Done has all behind it Done, and the reader's desk has all.
func (r *route) inOrder(t *testing.T) {
	t.Helper()
	h := r.l.Hops
	if h[0].Giver.Done && !h[1].Giver.Done || h[1].Giver.Done && !h[2].Giver.Done || h[2].Giver.Done && !h[2].Taker.Ended {
		t.Fatalf("Done too soon: %#v", r.l)
	}
	if impl.WriterDone(r.l) && r.read+impl.AtDesk(r.l) != r.text {
		t.Fatalf("the writer was told, and of %q the reader's desk had %q: %#v", r.text, r.read+impl.AtDesk(r.l), r.l)
	}
}

// ends goes on until both are told, or says that it never comes.
func (r *route) ends(t *testing.T, seed *steps) {
	t.Helper()
	was := told{}
	for step := 0; !impl.WriterDone(r.l) || !impl.ReaderAtEnd(r.l); step++ {
		if step > 400000 {
			t.Fatalf("it never ends: %#v", r.l)
		}
		r.does(seed)
		now := toldByWords(r.l)
		checkTold(t, r.l, now)
		for h, may := range now.may {
			if may && h < 2 && !r.l.Hops[h+1].Giver.Done || was.may[h] && !may {
				t.Fatalf("MayTell of hop %d is %v: %#v", h, may, r.l)
			}
		}
		if r.careful {
			r.inOrder(t)
		}
		was = now
	}
	if r.read != r.text {
		t.Fatalf("at the end was read %q of %q", r.read, r.text)
	}
}

func TestToldFromTheBeginningToTheEnd(t *testing.T) {
	for _, caps := range [][]int64{{1, 1, 1, 1, 1, 1}, {20, 10, 10, 10, 10, 20}, {400, 400, 400, 400, 400, 400}, {7, 400, 3, 5, 400, 1}, {400, 1, 400, 1, 400, 9}} {
		for roads := int64(1); roads <= 4; roads++ {
			for _, n := range []int64{0, 1, 14} {
				for _, careful := range []bool{true, false} {
					seed := steps(roads)
					r := &route{l: newLine(t, caps, roads), text: textFrom(0, n), careful: careful}
					r.ends(t, &seed)
				}
			}
		}
	}
}

// Whatever is given: it answers, and where the Line is wrong or there is no such hop it is no.
func TestNothingPanicsOutOfTheEnd(t *testing.T) {
	seed := steps(14)
	for range 30000 {
		l := someLine(&seed)
		for k := range l.Hops {
			if seed.below(2) == 0 {
				l.Hops[k].Taker = takersAt()[seed.below(6)].x
			}
			if seed.below(2) == 0 {
				l.Hops[k].Giver = giversAt()[seed.below(5)].g
			}
		}
		want := told{}
		if impl.LineOk(l) {
			want = toldByWords(l)
		}
		checkTold(t, l, want)
		if h := someNumber(&seed); !isBetween(h, 0, 2) && impl.MayTell(l, h) {
			t.Fatalf("MayTell of hop %d of %#v", h, l)
		}
	}
}

func TestTheEndKeepsItsLine(t *testing.T) {
	list := slices.Concat(rightLines(), []impl.Line{{}, allTold(manyRoads(4), 30), allTold(manyRoads(1), 0)})
	for _, wrong := range wrongHops() {
		list = append(list, lineAlong(manyRoads(4), fullHops()[0], wrong, fullHops()[2]))
	}
	for n := range 6 {
		list = append(list, line(manyRoads(2), slices.Repeat(allTold(manyRoads(2), 5).Hops[:1], n)...))
	}
	for _, l := range list {
		given := spareLine(l)
		was := wholeOf(given)
		checkTold(t, given, toldByWords(l))
		checkNoHopsTold(t, given)
		if !sameLine(wholeOf(given), was) {
			t.Fatalf("what was given, %#v, is now %#v", was, wholeOf(given))
		}
	}
}
