package tests

import (
	"math"
	"slices"
	"strings"
	"testing"

	"loop.example/g00450/impl"
)

// places are told of the six desks in order.
type places [desksOfLine]int64

// endsByWords writes each desk out: a Giver's Base and its Bytes, a Taker's Next.
func endsByWords(l impl.Line) places {
	a, b, c := l.Hops[0], l.Hops[1], l.Hops[2]
	return places{
		a.Giver.Base + int64(len(a.Giver.Bytes)), a.Taker.Next,
		b.Giver.Base + int64(len(b.Giver.Bytes)), b.Taker.Next,
		c.Giver.Base + int64(len(c.Giver.Bytes)), c.Taker.Next,
	}
}

// startsByWords writes each desk out: a Giver's Base, a Taker's Next less its Bytes.
func startsByWords(l impl.Line) places {
	a, b, c := l.Hops[0], l.Hops[1], l.Hops[2]
	return places{
		a.Giver.Base, a.Taker.Next - int64(len(a.Taker.Bytes)),
		b.Giver.Base, b.Taker.Next - int64(len(b.Taker.Bytes)),
		c.Giver.Base, c.Taker.Next - int64(len(c.Taker.Bytes)),
	}
}

// hopLinkedByWords lays both desks' bytes out by their places, the last one first.
func hopLinkedByWords(h impl.Hop) bool {
	if !isBetween(h.Taker.Next, h.Giver.Base, h.Giver.Base+int64(len(h.Giver.Bytes))) {
		return false
	}
	given := map[int64]byte{}
	for k := range h.Giver.Bytes {
		given[h.Giver.Base+int64(k)] = h.Giver.Bytes[k]
	}
	for k := len(h.Taker.Bytes) - 1; k >= 0; k-- {
		place := h.Taker.Next - int64(len(h.Taker.Bytes)-k)
		if b, is := given[place]; is && b != h.Taker.Bytes[k] {
			return false
		}
	}
	return true
}

func linkedByWords(l impl.Line) bool {
	starts, ends := startsByWords(l), endsByWords(l)
	is := starts[1] == ends[2] && starts[3] == ends[4]
	for _, h := range l.Hops {
		is = is && hopLinkedByWords(h)
	}
	return is
}

func checkPlaces(t *testing.T, l impl.Line, starts, ends places) {
	t.Helper()
	if got := impl.EndsOf(l); !slices.Equal(got, ends[:]) {
		t.Fatalf("EndsOf of %#v is %v, not %v", l, got, ends)
	}
	if got := impl.StartsOf(l); !slices.Equal(got, starts[:]) {
		t.Fatalf("StartsOf of %#v is %v, not %v", l, got, starts)
	}
}

func checkLinked(t *testing.T, name string, l impl.Line, want bool) {
	t.Helper()
	if got := impl.Linked(l); got != want {
		t.Fatalf("%s: Linked of %#v is %v", name, l, got)
	}
}

// checkCount holds the three calls that are given a right Line against the document's words.
func checkCount(t *testing.T, l impl.Line) {
	t.Helper()
	checkPlaces(t, l, startsByWords(l), endsByWords(l))
	checkLinked(t, "by the words", l, linkedByWords(l))
}

func checkUnderWay(t *testing.T, w impl.World, want int64) {
	t.Helper()
	if got := impl.UnderWay(w); got != want {
		t.Fatalf("UnderWay of %#v is %d, not %d", w, got, want)
	}
}

// checkNotCounted is of a Line that is not right.
func checkNotCounted(t *testing.T, l impl.Line) {
	t.Helper()
	if impl.LineOk(l) {
		t.Fatalf("LineOk of %#v", l)
	}
	if ends, starts := impl.EndsOf(l), impl.StartsOf(l); len(ends) != 0 || len(starts) != 0 {
		t.Fatalf("of the wrong %#v is told %v, %v", l, ends, starts)
	}
	checkLinked(t, "a wrong Line", l, false)
	for _, s := range []impl.Stream{{}, {Text: "abcdefghijkl", Read: 2}} {
		checkUnderWay(t, world(l, s), -1)
	}
}

func TestNothingIsUnderWayInANewWorld(t *testing.T) {
	for _, caps := range capsToTry() {
		for roads := int64(1); roads <= 4; roads++ {
			w := newWorld(t, caps, roads)
			checkUnderWay(t, w, 0)
			checkPlaces(t, w.Line, places{}, places{})
			checkLinked(t, "a new Line", w.Line, true)
		}
	}
}

// counts asks for the promise, and for what it follows from: each desk holds a stretch of what was written, and they hang together.
func (p *player) counts(t *testing.T) {
	t.Helper()
	l := p.w.Line
	under, room := impl.UnderWay(p.w), impl.RoomOf(l)
	if under != int64(len(p.written)-len(p.read)) || under < 0 || under > room {
		t.Fatalf("%d are under way, of %d was read %d, and there is room for %d: %#v", under, len(p.written), len(p.read), room, p.w)
	}
	checkCount(t, l)
	starts, ends := impl.StartsOf(l), impl.EndsOf(l)
	if ends[0] != int64(len(p.written)) || starts[5] != int64(len(p.read)) {
		t.Fatalf("of %d bytes was read %d: from %v to %v: %#v", len(p.written), len(p.read), starts, ends, p.w)
	}
	for k, had := range deskBytes(l) {
		if k > 0 && ends[k] > ends[k-1] {
			t.Fatalf("desk %d is ahead of the one it has it from: %v: %#v", k, ends, p.w)
		}
		if starts[k] > ends[k] || ends[k]-starts[k] > capsOf(l)[k] || p.written[starts[k]:ends[k]] != had {
			t.Fatalf("desk %d has %q, from %v to %v: %#v", k, had, starts, ends, p.w)
		}
	}
	checkLinked(t, "what comes of a new World", l, true)
}

func deskBytes(l impl.Line) []string {
	var list []string
	for _, h := range l.Hops {
		list = append(list, h.Giver.Bytes, h.Taker.Bytes)
	}
	return list
}

func TestNeverMoreThanThereIsRoomFor(t *testing.T) {
	for _, caps := range [][]int64{{1, 1, 1, 1, 1, 1}, {2, 3, 2, 3, 2, 3}, {20, 10, 10, 10, 10, 20}, {400, 400, 400, 400, 400, 400}, {7, 400, 3, 5, 400, 1}, {400, 1, 400, 1, 400, 9}} {
		for roads := int64(1); roads <= 4; roads++ {
			for _, losing := range []int64{0, 9} {
				seed := steps(1700 + roads*100 + losing)
				text := textFrom(0, 2*min(seed.below(40), 4*caps[0]))
				p := &player{w: newWorld(t, caps, roads)}
				p.counts(t)
				for step := 0; !p.w.Stream.Done || !p.w.Stream.Seen; step++ {
					if step > 200000 {
						t.Fatalf("it never ends: %#v", p.w)
					}
					if p.does(t, p.someAct(&seed, text, losing)) {
						p.counts(t)
					}
				}
				checkUnderWay(t, p.w, 0)
			}
		}
	}
}

// All that a little World can come to.
func TestNeverMoreThanThereIsRoomForInEveryOrder(t *testing.T) {
	most := int64(0)
	for _, all := range [][]player{everyState(t, "", 1, 100000), everyState(t, "a", 1, 100000), everyState(t, "ab", 2, 8000)} {
		for _, p := range all {
			p.counts(t)
			most = max(most, impl.UnderWay(p.w))
		}
	}
	if most != 2 {
		t.Fatalf("at most %d are under way", most)
	}
}

// everyone does all that can be done but read, till nothing changes any more.
func (p *player) everyone(t *testing.T, text string) {
	t.Helper()
	for changed := true; changed; {
		was := p.w
		if left := text[len(p.written):]; left != "" {
			p.does(t, writeAct(left))
		}
		for hop := int64(2); hop >= 0; hop-- {
			p.does(t, sendAct(hop, 0, p.w.Line.Hops[hop].Giver.Base, 40))
			p.does(t, comeAct(hop, 0))
			p.does(t, tellAct(hop, 0))
			p.does(t, comeAct(hop, 0))
			p.does(t, pumpAct(hop, 400))
			p.counts(t)
		}
		changed = !sameWorld(p.w, was)
	}
}

// Where nobody reads, just as much goes in as there is room for, and for a byte that is read one more; all of it below MaxText.
func TestAllRoomIsUsed(t *testing.T) {
	for _, caps := range [][]int64{{1, 1, 1, 1, 1, 1}, {20, 10, 10, 10, 10, 20}, {1, 2, 3, 4, 5, 6}, {6, 5, 4, 3, 2, 1}, {1, 300, 1, 300, 1, 300}, {300, 1, 300, 1, 300, 1}, {333, 333, 333, 333, 333, 333}} {
		room := sumOf(caps)
		text := textFrom(0, mostText)
		p := &player{w: newWorld(t, caps, 1)}
		p.everyone(t, text)
		checkUnderWay(t, p.w, room)
		for desk, had := range deskBytes(p.w.Line) {
			if int64(len(had)) != caps[desk] {
				t.Fatalf("desk %d has %d bytes, and room for %d", desk, len(had), caps[desk])
			}
		}
		if p.does(t, writeAct("x")) {
			t.Fatalf("one more goes in than there is room for: %#v", p.w)
		}
		if !p.does(t, readAct(1)) {
			t.Fatalf("nothing can be read: %#v", p.w)
		}
		checkUnderWay(t, p.w, room-1)
		p.everyone(t, text)
		checkUnderWay(t, p.w, room)
	}
}

// UnderWay asks the Stream alone, whatever right Line it is with.
func TestUnderWayIsOfTheStream(t *testing.T) {
	lines := []impl.Line{fullLine(manyRoads(4)), allTold(manyRoads(2), 30), newLineByWords(plainCaps(), 1)}
	for _, n := range []int64{0, 1, 2, 255, 256, 257, 1999, 2000} {
		for _, read := range []int64{0, 1, n / 2, n - 1, n} {
			for _, s := range flagged(textFrom(0, n), read) {
				want := int64(-1)
				if streamOkByWords(s) {
					want = n - read
				}
				for _, l := range lines {
					checkUnderWay(t, world(l, s), want)
				}
			}
		}
	}
	// More than there is room for, in a World that is right but came of no new one.
	l := newLineByWords([]int64{1, 1, 1, 1, 1, 1}, 1)
	checkUnderWay(t, world(l, impl.Stream{Text: textFrom(0, 2000)}), 2000)
	for _, s := range wrongStreams() {
		checkUnderWay(t, world(l, s), -1)
	}
}

// A hopAt tells where the desks of a hop begin and end: of the Giver, of the Taker.
type hopAt struct {
	base, given, start, next int64
}

// hopHaving has at each place the byte that textFrom has there.
func hopHaving(at hopAt, cap int64) impl.Hop {
	g := giver(at.base, textFrom(at.base, at.given-at.base), cap, at.given)
	return hop(g, taker(at.next, textFrom(at.start, at.next-at.start), cap, -1))
}

func lineHaving(cap int64, a, b, c hopAt) impl.Line {
	return line(manyRoads(2), hopHaving(a, cap), hopHaving(b, cap), hopHaving(c, cap))
}

// linkedLine has something at each desk, and in each hop five bytes that both desks have, with some on either side that only one has.
func linkedLine(from int64) impl.Line {
	return lineHaving(30, hopAt{from + 60, from + 70, from + 52, from + 65}, hopAt{from + 40, from + 52, from + 34, from + 45}, hopAt{from + 20, from + 34, from + 14, from + 25})
}

func shiftsOfPlaces() []int64 {
	return []int64{0, 1, 190, 251, 100000, math.MaxInt32 / 4, lastPlace - 71, lastPlace - 70}
}

func TestLinkedPlaces(t *testing.T) {
	for _, from := range shiftsOfPlaces() {
		l := linkedLine(from)
		starts, ends := places{60, 52, 40, 34, 20, 14}, places{70, 65, 52, 45, 34, 25}
		for k := range starts {
			starts[k], ends[k] = starts[k]+from, ends[k]+from
		}
		checkPlaces(t, l, starts, ends)
		checkLinked(t, "all hangs together", l, true)
		checkCount(t, l)
	}
}

// otherwise is a byte that is not the one that was, by much or by one bit.
func otherwise(text string, k int, by byte) string {
	return text[:k] + string([]byte{text[k] ^ by}) + text[k+1:]
}

// Each byte of each desk, one after the other, is another one: a fault just where the other desk of the hop has it, too.
func TestLinkedWhereOneByteIsUnlike(t *testing.T) {
	for _, from := range shiftsOfPlaces() {
		for k := range 3 {
			h := linkedLine(from).Hops[k]
			start := h.Taker.Next - int64(len(h.Taker.Bytes))
			faults := 0
			for _, by := range []byte{1, 128, 255} {
				for at := range h.Giver.Bytes {
					l := linkedLine(from)
					l.Hops[k].Giver.Bytes = otherwise(h.Giver.Bytes, at, by)
					shared := isBetween(h.Giver.Base+int64(at), start, h.Taker.Next-1)
					checkLinked(t, "a Giver's byte", l, !shared)
					if shared {
						faults++
					}
				}
				for at := range h.Taker.Bytes {
					l := linkedLine(from)
					l.Hops[k].Taker.Bytes = otherwise(h.Taker.Bytes, at, by)
					checkLinked(t, "a Taker's byte", l, start+int64(at) < h.Giver.Base)
				}
			}
			if faults != 15 {
				t.Fatalf("of hop %d only %d bytes are at both desks", k, faults)
			}
		}
	}
}

// The edges of what both have: five places, from a Giver's Base to a Taker's Next.
func TestLinkedAtTheFirstAndTheLast(t *testing.T) {
	for k := range 3 {
		h := linkedLine(0).Hops[k]
		ahead := len(h.Taker.Bytes) - 5
		for at, want := range map[int]bool{ahead - 1: true, ahead: false, ahead + 4: false} {
			l := linkedLine(0)
			l.Hops[k].Taker.Bytes = otherwise(h.Taker.Bytes, at, 32)
			checkLinked(t, "what the Taker has", l, want)
		}
		for at, want := range map[int]bool{0: false, 4: false, 5: true, len(h.Giver.Bytes) - 1: true} {
			l := linkedLine(0)
			l.Hops[k].Giver.Bytes = otherwise(h.Giver.Bytes, at, 32)
			checkLinked(t, "what the Giver has", l, want)
		}
		// Alike again where both are changed alike.
		l := linkedLine(0)
		l.Hops[k].Giver.Bytes = "?????" + h.Giver.Bytes[5:]
		l.Hops[k].Taker.Bytes = h.Taker.Bytes[:ahead] + "?????"
		checkLinked(t, "other bytes, alike", l, true)
	}
}

// A Taker that began behind the Giver's Base: what both have begins where the Taker does.
func TestLinkedWhereTheGiverHeardOfLittle(t *testing.T) {
	at := hopAt{50, 70, 60, 65}
	for k := range 3 {
		l := lineHaving(30, at, hopAt{55, 60, 60, 60}, hopAt{60, 60, 60, 60})
		if k == 1 {
			l = lineHaving(30, hopAt{70, 71, 70, 70}, at, hopAt{55, 60, 60, 60})
		}
		if k == 2 {
			l = lineHaving(30, hopAt{70, 71, 70, 70}, hopAt{70, 70, 70, 70}, at)
		}
		checkLinked(t, "all hangs together", l, true)
		given, taken := l.Hops[k].Giver.Bytes, l.Hops[k].Taker.Bytes
		for place := range given {
			l.Hops[k].Giver.Bytes = otherwise(given, place, 64)
			checkLinked(t, "a Giver's byte", l, place < 10 || place >= 15)
		}
		l.Hops[k].Giver.Bytes = given
		for place := range taken {
			l.Hops[k].Taker.Bytes = otherwise(taken, place, 64)
			checkLinked(t, "a Taker's byte", l, false)
		}
	}
}

// withNextAt puts the end of what a hop's Taker has elsewhere; it begins where it did, so that only that hop's link can break.
func withNextAt(l impl.Line, k int, next int64) impl.Line {
	x := &l.Hops[k].Taker
	start := x.Next - int64(len(x.Bytes))
	*x = taker(next, textFrom(start, next-start), x.Cap, -1)
	return l
}

func TestLinkedNextIsWithinItsGiver(t *testing.T) {
	for _, from := range shiftsOfPlaces() {
		for k := range 3 {
			g := linkedLine(from).Hops[k].Giver
			base, end := g.Base, behindKept(g)
			for next := base - 6; next <= min(end+2, lastPlace); next++ {
				l := withNextAt(linkedLine(from), k, next)
				if !impl.LineOk(l) {
					t.Fatalf("not LineOk: %#v", l)
				}
				checkLinked(t, "Next is elsewhere", l, isBetween(next, base, end))
				checkCount(t, l)
			}
		}
	}
}

// Far off, and where nothing is at the desks that could be unlike: the hops ahead are all at the one place, those behind at the other.
func TestLinkedNextIsFarFromItsGiver(t *testing.T) {
	still := func(at int64) hopAt { return hopAt{at, at, at, at} }
	for k := range 3 {
		for _, far := range [][2]int64{{500, 499}, {500, 501}, {500, 0}, {0, 1}, {0, lastPlace}, {lastPlace, 0}, {lastPlace, lastPlace - 1}, {0, 400}, {400, 0}} {
			given, next := far[0], far[1]
			hops := slices.Concat(slices.Repeat([]hopAt{still(given)}, k), []hopAt{{given, given, next, next}}, slices.Repeat([]hopAt{still(next)}, 2-k))
			l := lineHaving(20, hops[0], hops[1], hops[2])
			if starts, ends := startsByWords(l), endsByWords(l); starts[1] != ends[2] || starts[3] != ends[4] || !impl.LineOk(l) {
				t.Fatalf("more than one thing is wrong: %v, %v", starts, ends)
			}
			checkLinked(t, "Next is far off", l, false)
		}
	}
}

// Each house by itself: the Taker began elsewhere, or the next Giver ends elsewhere.
func TestLinkedPorters(t *testing.T) {
	for _, from := range shiftsOfPlaces() {
		for house := range 2 {
			for by := int64(-3); by <= 3; by++ {
				l := linkedLine(from)
				x := &l.Hops[house].Taker
				start := x.Next - int64(len(x.Bytes)) + by
				x.Bytes = textFrom(start, x.Next-start)
				checkLinked(t, "a porter's start", l, by == 0)
				checkCount(t, l)

				l = linkedLine(from)
				g := &l.Hops[house+1].Giver
				g.Bytes = textFrom(g.Base, behindKept(*g)+by-g.Base)
				checkLinked(t, "the next Giver's end", l, by == 0)
				checkCount(t, l)

				// Both by as much: they meet elsewhere.
				l.Hops[house].Taker = *x
				checkLinked(t, "both", l, true)
			}
		}
	}
}

// A hop's own two desks need not touch, and a porter's Taker is not asked where it ends.
func TestLinkedAsksNoMore(t *testing.T) {
	for name, l := range map[string]impl.Line{
		"a Giver that heard of all":                       lineHaving(20, hopAt{30, 30, 25, 30}, hopAt{25, 25, 20, 25}, hopAt{20, 20, 10, 20}),
		"a Giver that heard of nothing":                   lineHaving(20, hopAt{10, 30, 25, 30}, hopAt{10, 25, 20, 25}, hopAt{10, 20, 10, 20}),
		"a Giver of which nothing came":                   lineHaving(20, hopAt{20, 40, 20, 20}, hopAt{10, 20, 10, 10}, hopAt{0, 10, 0, 0}),
		"a Giver that heard of it, and has more":          lineHaving(20, hopAt{30, 40, 25, 30}, hopAt{20, 25, 15, 20}, hopAt{10, 15, 5, 10}),
		"Takers with nothing":                             lineHaving(20, hopAt{25, 40, 30, 30}, hopAt{15, 30, 20, 20}, hopAt{5, 20, 10, 10}),
		"nothing at any desk":                             lineHaving(20, hopAt{9, 9, 9, 9}, hopAt{9, 9, 9, 9}, hopAt{9, 9, 9, 9}),
		"nothing at any desk, at the beginning":           lineHaving(20, hopAt{}, hopAt{}, hopAt{}),
		"nothing at any desk, at MaxPlace":                lineHaving(20, hopAt{lastPlace, lastPlace, lastPlace, lastPlace}, hopAt{lastPlace, lastPlace, lastPlace, lastPlace}, hopAt{lastPlace, lastPlace, lastPlace, lastPlace}),
		"all at the reader's desk":                        lineHaving(20, hopAt{9, 9, 9, 9}, hopAt{9, 9, 9, 9}, hopAt{9, 9, 0, 9}),
		"all at the writer's desk":                        lineHaving(20, hopAt{0, 9, 0, 0}, hopAt{}, hopAt{}),
		"all at each Giver, up to MaxPlace":               lineHaving(20, hopAt{lastPlace - 9, lastPlace, lastPlace, lastPlace}, hopAt{lastPlace - 9, lastPlace, lastPlace, lastPlace}, hopAt{lastPlace - 9, lastPlace, lastPlace - 20, lastPlace}),
		"a reader who read what the last Giver still has": lineHaving(20, hopAt{9, 9, 9, 9}, hopAt{9, 9, 9, 9}, hopAt{2, 9, 5, 5}),
	} {
		if !impl.LineOk(l) {
			t.Fatalf("%s: not LineOk: %#v", name, l)
		}
		checkLinked(t, name, l, true)
		checkCount(t, l)
	}
}

// What a desk has ends at its Next: Parts behind it, Letters, ends and roads are not asked.
func TestLinkedAsksNothingElse(t *testing.T) {
	for _, from := range shiftsOfPlaces() {
		want := linkedLine(from)
		l := linkedLine(from)
		for k := range l.Hops {
			next := l.Hops[k].Taker.Next
			l.Hops[k].Taker.Parts = []impl.Part{part(next+1, "\xff"), part(next+3, "\xff\xfe")}
			l.Hops[k].Taker.End = next + 5
			l.Hops[k].Giver.End = true
			l.Hops[k].Giver.Limit = lastPlace
			l.Hops[k].Way = slices.Repeat([]impl.Letter{forth(0, next-1, "\xff\xfe\xfd", true), back(0, 3, lastPlace, true)}, 15)
		}
		l.Roads = roads(closedRoad(5, 9, 9))
		if !impl.LineOk(l) {
			t.Fatalf("not LineOk: %#v", l)
		}
		checkPlaces(t, l, startsByWords(want), endsByWords(want))
		checkLinked(t, "whatever else there is", l, true)
		l.Hops[2].Taker.Next++
		l.Hops[2].Taker.Parts = nil
		checkLinked(t, "whatever else there is, one place off", l, false)
	}
}

// Desks that are full, at both of which of each hop all is the same: 400 bytes, of which each is asked.
func TestLinkedWhereAllDesksAreFull(t *testing.T) {
	for _, from := range []int64{0, 1, lastPlace - 1200} {
		full := lineHaving(400, hopAt{from + 800, from + 1200, from + 800, from + 1200}, hopAt{from + 400, from + 800, from + 400, from + 800}, hopAt{from, from + 400, from, from + 400})
		checkPlaces(t, full, places{from + 800, from + 800, from + 400, from + 400, from, from}, places{from + 1200, from + 1200, from + 800, from + 800, from + 400, from + 400})
		checkLinked(t, "full desks", full, true)
		for k, h := range full.Hops {
			for _, at := range []int{0, 1, 39, 40, 199, 255, 256, 398, 399} {
				l := line(full.Roads, slices.Clone(full.Hops)...)
				l.Hops[k].Giver.Bytes = otherwise(h.Giver.Bytes, at, 1)
				checkLinked(t, "one byte of a full Giver", l, false)
				l = line(full.Roads, slices.Clone(full.Hops)...)
				l.Hops[k].Taker.Bytes = otherwise(h.Taker.Bytes, at, 1)
				checkLinked(t, "one byte of a full Taker", l, false)
			}
		}
		apart := lineHaving(400, hopAt{from + 1200, from + 1200, from + 800, from + 1200}, hopAt{from + 400, from + 800, from + 400, from + 400}, hopAt{from, from + 400, from, from})
		checkLinked(t, "full desks that have nothing alike", apart, true)
		checkCount(t, apart)
	}
}

// Givers that are told of the end, and Takers at theirs.
func TestCountBehindTheEnd(t *testing.T) {
	for _, all := range []int64{0, 1, 9, 500, lastPlace} {
		done := hop(doneGiver(all, 9, all), taker(all, "", 9, all))
		l := line(manyRoads(2), done, done, done)
		six := places{all, all, all, all, all, all}
		checkPlaces(t, l, six, six)
		checkLinked(t, "all is done", l, true)
		if all > 0 {
			l.Hops[2].Taker = taker(all, textFrom(all-1, 1), 9, all)
			checkPlaces(t, l, places{all, all, all, all, all, all - 1}, six)
			checkLinked(t, "one is left to read", l, true)
			l.Hops[1].Taker = taker(all, textFrom(all-1, 1), 9, all)
			checkLinked(t, "one is left in a house, and the next Giver has it", l, false)
		}
	}
	l := allTold(manyRoads(4), 30)
	checkPlaces(t, l, places{9, 9, 9, 9, 9, 9}, places{9, 9, 9, 9, 9, 9})
	checkLinked(t, "all is told", l, true)
}

// smallHops are all of few places and two letters; what they have may be alike or not.
func smallHops(from int64) []impl.Hop {
	texts := []string{"", "a", "b", "aa", "ab", "ba", "bb"}
	var list []impl.Hop
	for _, given := range texts {
		for _, taken := range texts {
			for base := from; base <= from+2; base++ {
				for next := from + int64(len(taken)); next <= from+4; next++ {
					list = append(list, hop(giver(base, given, 2, base), taker(next, taken, 3, -1)))
				}
			}
		}
	}
	return list
}

func TestCountOfEverySmallHop(t *testing.T) {
	for _, from := range []int64{0, 250, lastPlace - 4} {
		linked, unlike := 0, 0
		for _, h := range smallHops(from) {
			start, end := h.Taker.Next-int64(len(h.Taker.Bytes)), behindKept(h.Giver)
			// The others have nothing, just where this one wants it.
			upper, lower := hop(giver(end, "", 9, end), taker(end, "", 9, -1)), hop(giver(start, "", 9, start), taker(start, "", 9, -1))
			for _, l := range []impl.Line{line(manyRoads(1), h, lower, lower), line(manyRoads(2), upper, h, lower), line(manyRoads(3), upper, upper, h)} {
				checkCount(t, l)
				checkLinked(t, "a small hop", l, hopLinkedByWords(h))
			}
			if hopLinkedByWords(h) {
				linked++
			} else if isBetween(h.Taker.Next, h.Giver.Base, end) {
				unlike++
			}
		}
		if linked < 100 || unlike < 50 {
			t.Fatalf("only %d are linked, only %d are unlike", linked, unlike)
		}
	}
}

// hopsEndingAt are those whose Giver ends there: a porter could stand ahead of them.
func hopsEndingAt(hops []impl.Hop, end int64) []impl.Hop {
	return slices.DeleteFunc(slices.Clone(hops), func(h impl.Hop) bool { return behindKept(h.Giver) != end })
}

// Mostly the porters link them, so that it is the hops that count.
func TestCountOfSmallHopsSideBySide(t *testing.T) {
	seed := steps(17)
	all := smallHops(3)
	fitting := map[int64][]impl.Hop{}
	for start := int64(3); start <= 7; start++ {
		fitting[start] = hopsEndingAt(all, start)
	}
	behind := func(h impl.Hop) impl.Hop {
		list := fitting[h.Taker.Next-int64(len(h.Taker.Bytes))]
		if seed.below(4) == 0 {
			list = all
		}
		return list[seed.below(int64(len(list)))]
	}
	linked := 0
	for range 100000 {
		first := all[seed.below(int64(len(all)))]
		middle := behind(first)
		l := line(manyRoads(1), first, middle, behind(middle))
		if checkCount(t, l); linkedByWords(l) {
			linked++
		}
	}
	if linked < 200 {
		t.Fatalf("only %d are linked", linked)
	}
}

func TestCountOfRightLines(t *testing.T) {
	for _, l := range rightLines() {
		checkCount(t, l)
		checkUnderWay(t, world(l, impl.Stream{Text: "abcdefghijkl", Read: 5}), 7)
	}
	// Written out, for once: the desks of a Line that is right and not Linked.
	l := fullLine(manyRoads(4))
	checkPlaces(t, l, places{7, 4, 4, 3, 2, 2}, places{12, 7, 7, 5, 4, 4})
	checkLinked(t, "the full Line", l, false)
}

func TestCountOfWrongLines(t *testing.T) {
	checkNotCounted(t, impl.Line{})
	checkNotCounted(t, line(manyRoads(2), impl.Hop{}, impl.Hop{}, impl.Hop{}))
	for _, wrong := range wrongHops() {
		for k := range 3 {
			l := linkedLine(0)
			l.Roads = manyRoads(4)
			l.Hops[k] = alongRoads(wrong, 1)
			checkNotCounted(t, l)
		}
	}
	for _, wrong := range wrongRoads() {
		checkNotCounted(t, line(wrong, linkedLine(0).Hops...))
	}
	empty := newLineByWords(plainCaps(), 2)
	for n := range 12 {
		if n != 3 {
			checkNotCounted(t, line(manyRoads(2), slices.Repeat(empty.Hops[:1], n)...))
		}
	}
	for k := range 3 {
		for _, road := range append(noRoads(), 1, 2, 3) {
			if !isAlong(k, road, 1) {
				l := newLineByWords(plainCaps(), 1)
				l.Hops[k].Way = []impl.Letter{back(road, 7, 12, false)}
				checkNotCounted(t, l)
			}
		}
	}
}

// Wrong in a way that would still hang together, were it not asked.
func TestCountOfLinesThatWouldBeLinked(t *testing.T) {
	for k := range 3 {
		for _, spoil := range []func(h *impl.Hop){
			func(h *impl.Hop) { h.Giver.Cap = int64(len(h.Giver.Bytes)) - 1 },
			func(h *impl.Hop) { h.Giver.Cap = 401 },
			func(h *impl.Hop) { h.Giver.Limit = h.Giver.Base - 1 },
			func(h *impl.Hop) { h.Giver.Done = true },
			func(h *impl.Hop) { h.Taker.Cap = int64(len(h.Taker.Bytes)) - 1 },
			func(h *impl.Hop) { h.Taker.End = h.Taker.Next - 1 },
			func(h *impl.Hop) { h.Taker.Ended = true },
			func(h *impl.Hop) { h.Taker.Parts = []impl.Part{part(h.Taker.Next, "x")} },
			func(h *impl.Hop) { h.Way = manyLetters(31) },
			func(h *impl.Hop) { h.Way = []impl.Letter{forth(0, 7, "", false)} },
		} {
			l := linkedLine(0)
			spoil(&l.Hops[k])
			checkNotCounted(t, l)
		}
	}
	// A Giver that begins below 0, and a Taker that has more than ever came.
	checkNotCounted(t, lineHaving(20, hopAt{}, hopAt{}, hopAt{-1, 0, 0, 0}))
	l := newLineByWords(plainCaps(), 1)
	l.Hops[2].Taker.Bytes = "a"
	checkNotCounted(t, l)
	// One place beyond MaxPlace.
	checkNotCounted(t, linkedLine(lastPlace-69))
	beyond := hopAt{lastPlace + 1, lastPlace + 1, lastPlace + 1, lastPlace + 1}
	checkNotCounted(t, lineHaving(20, beyond, beyond, beyond))
}

func TestNothingPanicsOutOfACount(t *testing.T) {
	seed := steps(171)
	right := 0
	for range 50000 {
		l := someLine(&seed)
		if seed.below(4) == 0 {
			l = fullLine(manyRoads(1 + int(seed.below(4))))
		}
		s := flagged("abcdefghijkl", seed.below(14))[seed.below(8)]
		if seed.below(4) == 0 {
			s.Read = someNumber(&seed)
		}
		if !impl.LineOk(l) {
			checkNotCounted(t, l)
			checkUnderWay(t, world(l, s), -1)
			continue
		}
		right++
		checkCount(t, l)
		want := int64(-1)
		if streamOkByWords(s) {
			want = 12 - s.Read
		}
		checkUnderWay(t, world(l, s), want)
	}
	if right < 5000 {
		t.Fatalf("only %d of them are right", right)
	}
}

// The lists of two answers, and of one asked twice, are apart: what is written over one is not to be seen in another.
func TestCountsShareNothing(t *testing.T) {
	l := linkedLine(7)
	starts, ends := startsByWords(l), endsByWords(l)
	one, other := impl.EndsOf(l), impl.EndsOf(l)
	first, second := impl.StartsOf(l), impl.StartsOf(l)
	scratchAll(one, -9)
	scratchAll(first, -8)
	if !slices.Equal(other, ends[:]) || !slices.Equal(second, starts[:]) {
		t.Fatalf("behind lists that are written over, they are %v and %v", other, second)
	}
	checkPlaces(t, l, starts, ends)
}

func TestCountsKeepWhatTheyAreGiven(t *testing.T) {
	list := []impl.Line{linkedLine(0), linkedLine(lastPlace - 70), allTold(manyRoads(3), 30), newLineByWords(plainCaps(), 4)}
	list = append(list, rightLines()...)
	for _, wrong := range wrongHops() {
		list = append(list, lineAlong(manyRoads(4), fullHops()[0], wrong, fullHops()[2]))
	}
	for n := range 6 {
		list = append(list, line(manyRoads(2), slices.Repeat(fullLine(manyRoads(1)).Hops[:1], n)...))
	}
	for _, l := range list {
		given := spareLine(l)
		was := wholeOf(given)
		under := impl.UnderWay(world(given, impl.Stream{Text: "abc", Read: 1}))
		starts, ends, linked := impl.StartsOf(given), impl.EndsOf(given), impl.Linked(given)
		scratchAll(impl.StartsOf(given), -9)
		scratchAll(impl.EndsOf(given), -9)
		if !sameLine(wholeOf(given), was) {
			t.Fatalf("what was given, %#v, is now %#v", was, wholeOf(given))
		}
		// Spare room behind a list is no piece of it, and what is written over later is not to be seen in the answer.
		scratchLine(given)
		if !slices.Equal(starts, impl.StartsOf(l)) || !slices.Equal(ends, impl.EndsOf(l)) || linked != impl.Linked(l) {
			t.Fatalf("with room behind its lists, of %#v is told %v, %v, %v", l, starts, ends, linked)
		}
		if (under == 2) != lineOkByWords(l) || under != 2 && under != -1 {
			t.Fatalf("UnderWay in %#v is %d", l, under)
		}
	}
}

// Written out: five bytes are written, three sent, two pumped; these two are sent on, and one of them is read.
func TestCountOfAShortPlay(t *testing.T) {
	w := impl.Play(newWorld(t, plainCaps(), 2), []impl.Act{writeAct("hello"), tellAct(0, 0), comeAct(0, 0), sendAct(0, 0, 0, 3), twiceAct(0, 0), comeAct(0, 0), pumpAct(0, 2)})
	checkPlaces(t, w.Line, places{0, 2, 0, 0, 0, 0}, places{5, 3, 2, 0, 0, 0})
	checkUnderWay(t, w, 5)
	checkLinked(t, "on its way", w.Line, true)
	for k, unlike := range []string{"x", "hellp", "hexlo"} {
		l := line(w.Line.Roads, slices.Clone(w.Line.Hops)...)
		if strings.HasPrefix(unlike, "h") {
			l.Hops[0].Giver.Bytes = unlike
		} else {
			l.Hops[0].Taker.Bytes = unlike
		}
		checkLinked(t, unlike, l, k == 1)
	}
	w = impl.Play(w, []impl.Act{tellAct(1, 1), comeAct(1, 0), sendAct(1, 1, 0, 9), comeAct(1, 0), pumpAct(1, 9), tellAct(2, 0), comeAct(2, 0), sendAct(2, 0, 0, 9), comeAct(2, 0), readAct(1)})
	checkPlaces(t, w.Line, places{0, 2, 0, 2, 0, 1}, places{5, 3, 2, 2, 2, 2})
	checkUnderWay(t, w, 4)
	checkLinked(t, "partly read", w.Line, true)
}
