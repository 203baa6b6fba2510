package tests

import (
	"math"
	"slices"
	"strings"
	"testing"

	"loop.example/g00450/impl"
)

const mostPumped = 400

// pumpsByteByByte moves one byte after the other till one can't be, and then asks for the end.
func pumpsByteByByte(x impl.Taker, g impl.Giver, n int64) (impl.Taker, impl.Giver, int64) {
	if !takerOkByWords(x) || !giverOkByWords(g) || !isBetween(n, 0, 400) {
		return impl.Taker{}, impl.Giver{}, -1
	}
	count := int64(0)
	for count < n && x.Bytes != "" && !g.End && int64(len(g.Bytes)) < g.Cap && behindKept(g) < 1000000000 {
		g.Bytes += x.Bytes[:1]
		x.Bytes = x.Bytes[1:]
		count++
	}
	if x.Ended && x.Bytes == "" {
		g.End = true
	}
	return x, g, count
}

// takersToPump adds to the right ones those that have something at their end, or just not yet.
func takersToPump() []impl.Taker {
	const last = lastPlace
	return append(rightTakers(),
		taker(7, "", 9, 7),
		taker(7, "g", 9, 7),
		taker(7, "fg", 9, 7),
		taker(7, "abcdefg", 7, 7),
		taker(7, "abcdefg", 7, 8),
		taker(7, "fg", 9, 8),
		taker(7, "", 9, 8),
		taker(7, "", 9, 9, part(8, "i")),
		taker(7, "defg", 9, -1, part(8, "i"), part(9, "j"), part(11, "l")),
		taker(400, textFrom(0, 400), 400, 400),
		taker(400, textFrom(1, 399), 400, 400),
		taker(400, textFrom(2, 398), 400, 402, part(401, "z")),
		taker(300, everyByte(), 300, 300),
		taker(last, "z", 9, last),
		taker(last, textFrom(last-399, 399), 400, last),
	)
}

// giversToPump adds to the right ones those that have room for none, for one, and for just as many as some Takers have.
func giversToPump() []impl.Giver {
	const last = lastPlace
	return append(rightGivers(),
		giver(3, "de", 2, 3),
		giver(3, "de", 3, 5),
		giver(3, "de", 5, 4),
		giver(3, "de", 6, 99),
		giver(3, "", 7, 3),
		giver(3, "", 6, 3),
		giver(3, textFrom(3, 399), 400, 3),
		giver(3, "", 399, 3),
		giver(3, "", 400, 3),
		giver(last-400, "", 400, last),
		giver(last-399, "", 400, last),
		giver(last-3, "xyz", 9, last),
		giver(last-3, "xy", 9, last),
		giver(last-3, "x", 9, last-3),
		endedGiver(3, "de", 2, 9),
		endedGiver(last, "", 9, last),
	)
}

func amountsToPump() []int64 {
	return []int64{0, 1, 2, 3, 4, 5, 6, 7, 8, 255, 256, 257, 398, 399, 400}
}

func noAmounts() []int64 {
	return []int64{-1, -2, -400, 401, 402, 656, lastPlace, half, -round, -round + 1, round, round + 1, round + 400, math.MinInt64, math.MinInt64 + 1, math.MaxInt64 - 1, math.MaxInt64}
}

// eachToPump calls with each Taker beside each Giver by each right amount.
func eachToPump(call func(x impl.Taker, g impl.Giver, n int64)) {
	givers := giversToPump()
	for _, x := range takersToPump() {
		for _, g := range givers {
			for _, n := range amountsToPump() {
				call(x, g, n)
			}
		}
	}
}

func checkPumps(t *testing.T, x impl.Taker, g impl.Giver, n int64) {
	t.Helper()
	left, grown, count := impl.Pumps(x, g, n)
	wantLeft, wantGrown, want := pumpsByteByByte(x, g, n)
	if !sameTaker(left, wantLeft) || grown != wantGrown || count != want {
		t.Fatalf("Pumps of %#v, %#v, %d is %#v, %#v, %d, not %#v, %#v, %d", x, g, n, left, grown, count, wantLeft, wantGrown, want)
	}
}

func checkCanPump(t *testing.T, x impl.Taker, g impl.Giver) {
	t.Helper()
	if _, _, want := pumpsByteByByte(x, g, mostPumped); impl.CanPump(x, g) != want {
		t.Fatalf("CanPump of %#v, %#v is %d, not %d", x, g, impl.CanPump(x, g), want)
	}
}

func TestWhatIsPumpedIsAtTheNextOnesEnd(t *testing.T) {
	eachToPump(func(x impl.Taker, g impl.Giver, n int64) {
		left, grown, count := impl.Pumps(x, g, n)
		if !isBetween(count, 0, min(n, int64(len(x.Bytes)))) {
			t.Fatalf("Pumps of %#v, %#v, %d moves %d", x, g, n, count)
		}
		wantLeft, wantGrown := x, g
		wantLeft.Bytes = x.Bytes[count:]
		wantGrown.Bytes = g.Bytes + x.Bytes[:count]
		wantGrown.End = g.End || x.Ended && count == int64(len(x.Bytes))
		if !sameTaker(left, wantLeft) || grown != wantGrown {
			t.Fatalf("Pumps of %#v, %#v, %d is %#v, %#v, %d", x, g, n, left, grown, count)
		}
		if !impl.TakerOk(left) || !impl.GiverOk(grown) || impl.LimitOf(left) != impl.LimitOf(x)+count {
			t.Fatalf("Pumps of %#v, %#v, %d is not right: %#v, %#v", x, g, n, left, grown)
		}
	})
}

// As many as n, as there are and as the Giver takes: who stopped ahead of all three could have moved one more.
func TestPumpsMovesWhicheverIsLeast(t *testing.T) {
	eachToPump(func(x impl.Taker, g impl.Giver, n int64) {
		room := min(g.Cap-int64(len(g.Bytes)), lastPlace-behindKept(g))
		if g.End {
			room = 0
		}
		want := min(n, int64(len(x.Bytes)), room)
		if _, _, count := impl.Pumps(x, g, n); count != want {
			t.Fatalf("Pumps of %#v, %#v, %d moves %d, not %d", x, g, n, count, want)
		}
	})
}

func TestCanPumpTellsWhatPumpsMoves(t *testing.T) {
	for _, x := range takersToPump() {
		for _, g := range giversToPump() {
			can := impl.CanPump(x, g)
			left, grown, count := impl.Pumps(x, g, impl.MaxCap)
			if can != count || can != int64(len(x.Bytes)-len(left.Bytes)) {
				t.Fatalf("CanPump of %#v, %#v is %d, but Pumps moves %d", x, g, can, count)
			}
			if more := impl.CanPump(left, grown); more != 0 {
				t.Fatalf("behind all that could be, CanPump of %#v, %#v is %d", left, grown, more)
			}
			for _, n := range amountsToPump() {
				left, grown, count := impl.Pumps(x, g, n)
				if rest := impl.CanPump(left, grown); count != min(n, can) || count+rest != can {
					t.Fatalf("of %#v, %#v could %d, moved are %d, and %d could still", x, g, can, count, rest)
				}
			}
		}
	}
}

func TestPumpsOfNamedCases(t *testing.T) {
	const last = lastPlace
	most := textFrom(0, 400)
	for _, c := range []struct {
		name  string
		x     impl.Taker
		g     impl.Giver
		n     int64
		left  impl.Taker
		grown impl.Giver
		count int64
	}{
		{"all there are", taker(7, "efg", 9, -1), giver(1, "bc", 9, 4), 9, taker(7, "", 9, -1), giver(1, "bcefg", 9, 4), 3},
		{"just as many as there are", taker(7, "efg", 9, -1), giver(1, "bc", 9, 4), 3, taker(7, "", 9, -1), giver(1, "bcefg", 9, 4), 3},
		{"one less", taker(7, "efg", 9, -1), giver(1, "bc", 9, 4), 2, taker(7, "g", 9, -1), giver(1, "bcef", 9, 4), 2},
		{"n 1", taker(7, "efg", 9, -1), giver(1, "bc", 9, 4), 1, taker(7, "fg", 9, -1), giver(1, "bce", 9, 4), 1},
		{"n 0", taker(7, "efg", 9, -1), giver(1, "bc", 9, 4), 0, taker(7, "efg", 9, -1), giver(1, "bc", 9, 4), 0},
		{"n -1", taker(7, "efg", 9, -1), giver(1, "bc", 9, 4), -1, impl.Taker{}, impl.Giver{}, -1},
		{"n MaxCap", taker(400, most, 400, -1), giver(7, "", 400, 7), 400, taker(400, "", 400, -1), giver(7, most, 400, 7), 400},
		{"n one below MaxCap", taker(400, most, 400, -1), giver(7, "", 400, 7), 399, taker(400, most[399:], 400, -1), giver(7, most[:399], 400, 7), 399},
		{"n one past MaxCap", taker(400, most, 400, -1), giver(7, "", 400, 7), 401, impl.Taker{}, impl.Giver{}, -1},
		{"no Bytes", taker(7, "", 9, -1), giver(1, "bc", 9, 4), 400, taker(7, "", 9, -1), giver(1, "bc", 9, 4), 0},
		{"one Byte", taker(7, "g", 9, -1), giver(1, "bc", 9, 4), 400, taker(7, "", 9, -1), giver(1, "bcg", 9, 4), 1},
		{"Cap Bytes", taker(7, "efg", 3, -1), giver(1, "", 9, 4), 400, taker(7, "", 3, -1), giver(1, "efg", 9, 4), 3},
		{"Cap 1 to Cap 1", taker(7, "g", 1, -1), giver(1, "", 1, 4), 400, taker(7, "", 1, -1), giver(1, "g", 1, 4), 1},
		{"every byte", taker(256, everyByte(), 256, 256), giver(1, "", 400, 4), 400, taker(256, "", 256, 256), endedGiver(1, everyByte(), 400, 4), 256},
		{"room for none", taker(7, "efg", 9, -1), giver(1, "bc", 2, 4), 400, taker(7, "efg", 9, -1), giver(1, "bc", 2, 4), 0},
		{"room for one", taker(7, "efg", 9, -1), giver(1, "bc", 3, 4), 400, taker(7, "fg", 9, -1), giver(1, "bce", 3, 4), 1},
		{"room for just as many", taker(7, "efg", 9, -1), giver(1, "bc", 5, 4), 400, taker(7, "", 9, -1), giver(1, "bcefg", 5, 4), 3},
		{"room for one less", taker(7, "efg", 9, -1), giver(1, "bc", 4, 4), 400, taker(7, "g", 9, -1), giver(1, "bcef", 4, 4), 2},
		{"the Limit does not count", taker(7, "efg", 9, -1), giver(1, "bc", 9, 1), 400, taker(7, "", 9, -1), giver(1, "bcefg", 9, 1), 3},
		{"Bytes that end at MaxPlace", taker(7, "efg", 9, -1), giver(last-2, "yz", 9, last), 400, taker(7, "efg", 9, -1), giver(last-2, "yz", 9, last), 0},
		{"Bytes that end one below MaxPlace", taker(7, "efg", 9, -1), giver(last-3, "xy", 9, last), 400, taker(7, "fg", 9, -1), giver(last-3, "xye", 9, last), 1},
		{"just up to MaxPlace", taker(7, "efg", 9, 7), giver(last-3, "", 9, last), 400, taker(7, "", 9, 7), endedGiver(last-3, "efg", 9, last), 3},
		{"one below MaxPlace, at their end", taker(7, "fg", 9, 7), giver(last-1, "", 9, last), 400, taker(7, "g", 9, 7), giver(last-1, "f", 9, last), 1},
		{"at MaxPlace, ended with no Bytes", taker(7, "", 9, 7), giver(last, "", 9, last), 400, taker(7, "", 9, 7), endedGiver(last, "", 9, last), 0},
		{"a Taker at MaxPlace", taker(last, "yz", 9, last), giver(0, "", 9, 0), 400, taker(last, "", 9, last), endedGiver(0, "yz", 9, 0), 2},
		{"Parts stay", taker(7, "efg", 9, -1, part(8, "i"), part(10, "k")), giver(1, "", 9, 4), 2, taker(7, "g", 9, -1, part(8, "i"), part(10, "k")), giver(1, "ef", 9, 4), 2},
		{"Parts stay, no Bytes left", taker(7, "efg", 9, 11, part(8, "i"), part(10, "k")), giver(1, "", 9, 4), 3, taker(7, "", 9, 11, part(8, "i"), part(10, "k")), giver(1, "efg", 9, 4), 3},
		{"ended with no Bytes at all", taker(7, "", 9, 7), giver(1, "bc", 9, 4), 400, taker(7, "", 9, 7), endedGiver(1, "bc", 9, 4), 0},
		{"ended at place 0", taker(0, "", 1, 0), giver(0, "", 1, 0), 400, taker(0, "", 1, 0), endedGiver(0, "", 1, 0), 0},
		{"ended with no Bytes at all, n 0", taker(7, "", 9, 7), giver(1, "bc", 9, 4), 0, taker(7, "", 9, 7), endedGiver(1, "bc", 9, 4), 0},
		{"ended with no Bytes at all, no room", taker(7, "", 9, 7), giver(1, "bc", 2, 4), 400, taker(7, "", 9, 7), endedGiver(1, "bc", 2, 4), 0},
		{"ended, n 0, Bytes stay", taker(7, "g", 9, 7), giver(1, "bc", 9, 4), 0, taker(7, "g", 9, 7), giver(1, "bc", 9, 4), 0},
		{"ended, one stays by n", taker(7, "efg", 9, 7), giver(1, "bc", 9, 4), 2, taker(7, "g", 9, 7), giver(1, "bcef", 9, 4), 2},
		{"ended, one stays by the room", taker(7, "efg", 9, 7), giver(1, "bc", 4, 4), 400, taker(7, "g", 9, 7), giver(1, "bcef", 4, 4), 2},
		{"ended, none stays", taker(7, "efg", 9, 7), giver(1, "bc", 9, 4), 3, taker(7, "", 9, 7), endedGiver(1, "bcefg", 9, 4), 3},
		{"ended, none stays, just the room", taker(7, "efg", 9, 7), giver(1, "bc", 5, 4), 400, taker(7, "", 9, 7), endedGiver(1, "bcefg", 5, 4), 3},
		{"an End that is not there yet", taker(7, "efg", 9, 8), giver(1, "bc", 9, 4), 400, taker(7, "", 9, 8), giver(1, "bcefg", 9, 4), 3},
		{"an End that is not there yet, no Bytes", taker(7, "", 9, 8), giver(1, "bc", 9, 4), 400, taker(7, "", 9, 8), giver(1, "bc", 9, 4), 0},
		{"no End, no Bytes", taker(0, "", 9, -1), giver(0, "", 9, 0), 400, taker(0, "", 9, -1), giver(0, "", 9, 0), 0},
		{"a Giver at its End", taker(7, "efg", 9, -1), endedGiver(1, "bc", 9, 4), 400, taker(7, "efg", 9, -1), endedGiver(1, "bc", 9, 4), 0},
		{"a Giver at its End, ended", taker(7, "efg", 9, 7), endedGiver(1, "bc", 9, 4), 400, taker(7, "efg", 9, 7), endedGiver(1, "bc", 9, 4), 0},
		{"a Giver at its End, ended with no Bytes", taker(7, "", 9, 7), endedGiver(1, "bc", 9, 4), 400, taker(7, "", 9, 7), endedGiver(1, "bc", 9, 4), 0},
		{"a Done Giver", taker(7, "efg", 9, -1), doneGiver(1, 9, 4), 400, taker(7, "efg", 9, -1), doneGiver(1, 9, 4), 0},
		{"a Done Giver, ended", taker(7, "efg", 9, 7), doneGiver(1, 9, 4), 400, taker(7, "efg", 9, 7), doneGiver(1, 9, 4), 0},
		{"a Done Giver, ended with no Bytes", taker(7, "", 9, 7), doneGiver(1, 9, 4), 400, taker(7, "", 9, 7), doneGiver(1, 9, 4), 0},
		{"the zero Taker", impl.Taker{}, giver(1, "bc", 9, 4), 1, impl.Taker{}, impl.Giver{}, -1},
		{"the zero Giver", taker(7, "efg", 9, -1), impl.Giver{}, 1, impl.Taker{}, impl.Giver{}, -1},
		{"the zero Giver, nothing to move", taker(7, "", 9, -1), impl.Giver{}, 0, impl.Taker{}, impl.Giver{}, -1},
	} {
		left, grown, count := impl.Pumps(c.x, c.g, c.n)
		if !sameTaker(left, c.left) || grown != c.grown || count != c.count {
			t.Errorf("%s: Pumps of %#v, %#v, %d is %#v, %#v, %d", c.name, c.x, c.g, c.n, left, grown, count)
		}
	}
}

func TestCanPumpOfNamedCases(t *testing.T) {
	const last = lastPlace
	for _, c := range []struct {
		name string
		x    impl.Taker
		g    impl.Giver
		want int64
	}{
		{"all there are", taker(7, "efg", 9, -1), giver(1, "bc", 9, 4), 3},
		{"just the room", taker(7, "efg", 9, -1), giver(1, "bc", 5, 4), 3},
		{"room for one less", taker(7, "efg", 9, -1), giver(1, "bc", 4, 4), 2},
		{"room for one", taker(7, "efg", 9, -1), giver(1, "bc", 3, 4), 1},
		{"room for none", taker(7, "efg", 9, -1), giver(1, "bc", 2, 4), 0},
		{"no Bytes", taker(7, "", 9, -1), giver(1, "bc", 9, 4), 0},
		{"one Byte", taker(7, "g", 9, -1), giver(1, "bc", 9, 4), 1},
		{"MaxCap", taker(400, textFrom(0, 400), 400, -1), giver(1, "", 400, 4), 400},
		{"one below MaxCap", taker(400, textFrom(0, 400), 400, -1), giver(1, "b", 400, 4), 399},
		{"Parts do not count", taker(7, "g", 9, -1, part(8, "i"), part(10, "k")), giver(1, "", 9, 4), 1},
		{"the Limit does not count", taker(7, "efg", 9, -1), giver(1, "bc", 9, 1), 3},
		{"up to MaxPlace", taker(7, "efg", 9, -1), giver(last-4, "wx", 9, last), 2},
		{"at MaxPlace", taker(7, "efg", 9, -1), giver(last-2, "yz", 9, last), 0},
		{"ended with no Bytes", taker(7, "", 9, 7), giver(1, "bc", 9, 4), 0},
		{"ended", taker(7, "efg", 9, 7), giver(1, "bc", 9, 4), 3},
		{"a Giver at its End", taker(7, "efg", 9, -1), endedGiver(1, "bc", 9, 4), 0},
		{"a Done Giver", taker(7, "efg", 9, -1), doneGiver(1, 9, 4), 0},
		{"the zero Taker", impl.Taker{}, giver(1, "bc", 9, 4), -1},
		{"the zero Giver", taker(7, "efg", 9, -1), impl.Giver{}, -1},
		{"the zero Giver, nothing to move", taker(7, "", 9, -1), impl.Giver{}, -1},
		{"both zero", impl.Taker{}, impl.Giver{}, -1},
	} {
		if got := impl.CanPump(c.x, c.g); got != c.want {
			t.Errorf("%s: CanPump of %#v, %#v is %d", c.name, c.x, c.g, got)
		}
	}
}

func TestPumpsOfEachTakerAndGiver(t *testing.T) {
	eachToPump(func(x impl.Taker, g impl.Giver, n int64) { checkPumps(t, x, g, n) })
	for _, x := range takersToPump() {
		for _, g := range giversToPump() {
			checkCanPump(t, x, g)
		}
	}
}

func TestPumpsOfEverySmallOne(t *testing.T) {
	var givers []impl.Giver
	for _, base := range []int64{0, 11, lastPlace - 2, lastPlace} {
		for limit := range int64(4) {
			givers = append(givers, smallGivers(base, limit)...)
		}
	}
	for _, next := range []int64{0, 2, lastPlace - 1, lastPlace} {
		for limit := int64(1); limit <= 2; limit++ {
			for k, x := range smallTakers(next, limit) {
				// Of the wrong ones, which are far more and all alike to a porter, some are enough.
				if !takerOkByWords(x) && k%40 != 0 {
					continue
				}
				for _, g := range givers {
					checkCanPump(t, x, g)
					for _, n := range []int64{-1, 0, 1, 2, 3, 400, 401} {
						checkPumps(t, x, g, n)
					}
				}
			}
		}
	}
}

// checkRefused asks both calls; CanPump has no amount, so it refuses what is wrong beside that alone.
func checkRefused(t *testing.T, x impl.Taker, g impl.Giver, n int64) {
	t.Helper()
	left, grown, count := impl.Pumps(x, g, n)
	if !sameTaker(left, impl.Taker{}) || grown != (impl.Giver{}) || count != -1 {
		t.Fatalf("Pumps of %#v, %#v, %d is %#v, %#v, %d", x, g, n, left, grown, count)
	}
	if got := impl.CanPump(x, g); !isBetween(n, 0, mostPumped) && impl.TakerOk(x) && impl.GiverOk(g) {
		checkCanPump(t, x, g)
	} else if got != -1 {
		t.Fatalf("CanPump of %#v, %#v is %d", x, g, got)
	}
}

// spoiltTakers are this one with one field alone changed, where that makes it wrong.
func spoiltTakers(x impl.Taker) []impl.Taker {
	const last = lastPlace
	var list []impl.Taker
	add := func(change func(y *impl.Taker)) {
		y := x
		y.Parts = slices.Clone(x.Parts)
		change(&y)
		if !takerOkByWords(y) {
			list = append(list, y)
		}
	}
	for _, n := range []int64{-1, 0, last + 1, x.Next - 1, x.Next + 1} {
		add(func(y *impl.Taker) { y.Next = n })
		add(func(y *impl.Taker) { y.Cap = n })
		add(func(y *impl.Taker) { y.End = n })
	}
	for _, n := range []int64{401, 402, int64(len(x.Bytes)) - 1} {
		add(func(y *impl.Taker) { y.Cap = n })
	}
	add(func(y *impl.Taker) { y.End = -2 })
	add(func(y *impl.Taker) { y.Ended = !y.Ended })
	add(func(y *impl.Taker) { y.Bytes = textFrom(0, y.Cap+1) })
	add(func(y *impl.Taker) { y.Bytes = textFrom(0, min(y.Next, 400)+1) })
	add(func(y *impl.Taker) { y.Parts = append(y.Parts, part(y.Next, "a")) })
	add(func(y *impl.Taker) { y.Parts = append(y.Parts, part(limitByWords(*y), "a")) })
	add(func(y *impl.Taker) { y.Parts = append(y.Parts, part(limitByWords(*y)-1, "")) })
	add(func(y *impl.Taker) { y.Parts = append(y.Parts, part(y.Next+1, strings.Repeat("a", 41))) })
	return list
}

// spoiltGivers are this one with one field alone changed, where that makes it wrong.
func spoiltGivers(g impl.Giver) []impl.Giver {
	const last = lastPlace
	var list []impl.Giver
	add := func(change func(y *impl.Giver)) {
		y := g
		change(&y)
		if !giverOkByWords(y) {
			list = append(list, y)
		}
	}
	for _, n := range []int64{-1, 0, last + 1, g.Base - 1, g.Limit + 1} {
		add(func(y *impl.Giver) { y.Base = n })
		add(func(y *impl.Giver) { y.Cap = n })
		add(func(y *impl.Giver) { y.Limit = n })
	}
	for _, n := range []int64{401, 402, int64(len(g.Bytes)) - 1} {
		add(func(y *impl.Giver) { y.Cap = n })
	}
	add(func(y *impl.Giver) { y.End = !y.End })
	add(func(y *impl.Giver) { y.Done = !y.Done })
	add(func(y *impl.Giver) { y.Bytes = textFrom(0, y.Cap+1) })
	add(func(y *impl.Giver) { y.Bytes = textFrom(0, min(400, last-y.Base)+1) })
	return list
}

func TestPumpsRefusesWrongTakers(t *testing.T) {
	list := wrongTakers()
	for _, x := range takersToPump() {
		list = append(list, spoiltTakers(x)...)
	}
	for _, x := range list {
		for _, g := range giversToPump() {
			for _, n := range []int64{0, 1, 399, 400} {
				checkRefused(t, x, g, n)
			}
		}
	}
}

func TestPumpsRefusesWrongGivers(t *testing.T) {
	list := wrongGivers()
	for _, g := range giversToPump() {
		list = append(list, spoiltGivers(g)...)
	}
	for _, g := range list {
		for _, x := range takersToPump() {
			for _, n := range []int64{0, 1, 399, 400} {
				checkRefused(t, x, g, n)
			}
		}
	}
}

func TestPumpsRefusesWrongAmounts(t *testing.T) {
	for _, x := range takersToPump() {
		for _, g := range giversToPump() {
			for _, n := range noAmounts() {
				checkRefused(t, x, g, n)
			}
		}
	}
}

func TestPumpsRefusesTwoWrongAtOnce(t *testing.T) {
	x, g := taker(7, "efg", 9, 7), giver(1, "bc", 9, 4)
	for _, wrong := range wrongTakers() {
		for _, n := range noAmounts() {
			checkRefused(t, wrong, g, n)
		}
		for _, other := range wrongGivers() {
			checkRefused(t, wrong, other, 3)
			checkRefused(t, wrong, other, -1)
		}
	}
	for _, wrong := range wrongGivers() {
		for _, n := range noAmounts() {
			checkRefused(t, x, wrong, n)
		}
	}
}

// someNumber is mostly one at which something turns over.
func someNumber(seed *steps) int64 {
	list := []int64{math.MinInt64, math.MinInt64 + 1, -round, -401, -2, -1, 0, 1, 2, 40, 399, 400, 401, lastPlace - 400, lastPlace - 1, lastPlace, lastPlace + 1, round, math.MaxInt64 - 400, math.MaxInt64 - 1, math.MaxInt64}
	return list[seed.below(int64(len(list)))]
}

func someBytes(seed *steps) string {
	return textFrom(0, []int64{0, 0, 1, 2, 40, 41, 399, 400, 401, 5000}[seed.below(10)])
}

// Whatever is given: it answers, and what it answers is of the one kind or of the other.
func TestNothingPanicsOutOfPumps(t *testing.T) {
	seed := steps(12)
	for range 100000 {
		x := impl.Taker{Next: someNumber(&seed), Bytes: someBytes(&seed), Cap: someNumber(&seed), End: someNumber(&seed), Ended: seed.below(2) == 0}
		for range seed.below(3) {
			x.Parts = append(x.Parts, part(someNumber(&seed), someBytes(&seed)))
		}
		g := impl.Giver{Base: someNumber(&seed), Bytes: someBytes(&seed), Cap: someNumber(&seed), Limit: someNumber(&seed), End: seed.below(2) == 0, Done: seed.below(2) == 0}
		n := someNumber(&seed)
		if !impl.TakerOk(x) || !impl.GiverOk(g) || !isBetween(n, 0, mostPumped) {
			checkRefused(t, x, g, n)
			continue
		}
		checkPumps(t, x, g, n)
	}
}

// house is a Taker and the Giver behind it, with all that ever came to it and all that ever went on from it.
type house struct {
	x    impl.Taker
	g    impl.Giver
	came int64
	went string
}

func (h *house) comes(text string, n int64) {
	to := min(int64(len(text)), h.x.Next+n)
	h.x, _ = impl.Takes(h.x, h.x.Next, text[h.x.Next:to], to == int64(len(text)))
	h.came = h.x.Next
}

func (h *house) pumps(t *testing.T, n int64) {
	t.Helper()
	can := impl.CanPump(h.x, h.g)
	x, g, count := impl.Pumps(h.x, h.g, n)
	if count != min(can, n) || !impl.TakerOk(x) || !impl.GiverOk(g) {
		t.Fatalf("Pumps of %#v, %d is %#v, %#v, %d", h, n, x, g, count)
	}
	h.x, h.g = x, g
}

func (h *house) goes(n int64) {
	base := h.g.Base + min(n, int64(len(h.g.Bytes)))
	h.went += h.g.Bytes[:base-h.g.Base]
	h.g, _ = impl.Hears(h.g, base, base, true)
}

// stands asks for each byte that came, once and in order: it went on, or the Giver keeps it, or the Taker has it.
func (h *house) stands(t *testing.T, text string) {
	t.Helper()
	if h.went+h.g.Bytes+h.x.Bytes != text[:h.came] || h.g.End && (!h.x.Ended || h.x.Bytes != "") {
		t.Fatalf("of the first %d bytes the house has %#v", h.came, h)
	}
}

func TestAllIsPumpedThroughInOrderOnce(t *testing.T) {
	for _, c := range []struct{ take, give, length int64 }{{1, 1, 20}, {5, 3, 200}, {3, 9, 200}, {400, 7, 900}, {7, 400, 900}, {400, 400, 2000}, {400, 400, 0}, {1, 400, 1}} {
		for seed := range steps(10) {
			h := &house{x: newTaker(t, c.take), g: newGiver(t, c.give)}
			text := textFrom(0, c.length)
			for step := 0; !h.g.Done; step++ {
				if step > 50000 {
					t.Fatalf("it is never done: %#v", h)
				}
				h.comes(text, seed.below(41))
				h.stands(t, text)
				h.pumps(t, seed.below(min(mostPumped, c.give+2)+1))
				h.stands(t, text)
				h.goes(seed.below(c.give + 1))
			}
			if h.went != text || h.g.Base != c.length || h.x.Bytes != "" {
				t.Fatalf("of %d bytes went %#v", c.length, h)
			}
		}
	}
}

// The same n again and again, with nothing else between but that room is made: n of 0 alone moves nothing.
func TestPumpedAgainAndAgainByOneAmount(t *testing.T) {
	text := textFrom(0, 400)
	for _, n := range []int64{1, 2, 3, 7, 39, 40, 41, 199, 200, 399, 400} {
		for _, room := range []int64{1, 2, 40, 399, 400} {
			h := &house{x: taker(400, text, 400, 400), g: newGiver(t, room), came: 400}
			for step := 0; !h.g.End && step <= 400; step++ {
				h.pumps(t, n)
				h.stands(t, text)
				h.goes(room)
			}
			if h.went != text || !h.g.Done && h.g.Bytes != "" || !h.g.End {
				t.Fatalf("by %d, with room for %d, went %#v", n, room, h)
			}
		}
	}
	h := &house{x: taker(400, text, 400, 400), g: newGiver(t, 400), came: 400}
	for range 9 {
		h.pumps(t, 0)
		h.stands(t, text)
	}
	if h.x.Bytes != text || h.g != giver(0, "", 400, 0) {
		t.Fatalf("by 0 went %#v", h)
	}
}

func TestPumpsSharesNothing(t *testing.T) {
	right := []impl.Giver{giver(1, "bc", 9, 4), giver(1, "bc", 2, 4), endedGiver(1, "bc", 9, 4), doneGiver(1, 9, 4)}
	for _, g := range append(right, impl.Giver{}, giver(7, "", 9, 6)) {
		for _, n := range []int64{0, 1, 2, 3, 400, -1, 401} {
			checkOwnParts(t, "Pumps", func(x impl.Taker) impl.Taker {
				before, was := g, x
				left, _, _ := impl.Pumps(x, g, n)
				impl.CanPump(x, g)
				if g != before || !sameTaker(x, was) {
					t.Errorf("what was given is now %#v, %#v", x, g)
				}
				return left
			})
		}
	}
	checkOwnParts(t, "Pumps of a wrong Taker", func(x impl.Taker) impl.Taker {
		x.Ended = true
		left, _, _ := impl.Pumps(x, right[0], 1)
		impl.CanPump(x, right[0])
		return left
	})
	checkOwnParts(t, "CanPump", func(x impl.Taker) impl.Taker {
		impl.CanPump(x, right[0])
		return impl.Taker{}
	})
}

// What was answered once is answered again, whatever is done with the first answer.
func TestPumpsAnswersAlikeEachTime(t *testing.T) {
	for _, x := range takersToPump() {
		for _, g := range giversToPump() {
			left, grown, count := impl.Pumps(x, g, 3)
			should := left
			should.Parts = slices.Clone(left.Parts)
			impl.Pumps(left, grown, mostPumped)
			scratchAll(left.Parts, part(77, "scratched"))
			again, grownAgain, countAgain := impl.Pumps(x, g, 3)
			if !sameTaker(again, should) || grownAgain != grown || countAgain != count {
				t.Fatalf("Pumps of %#v, %#v is %#v, %#v, %d, then %#v, %#v, %d", x, g, should, grown, count, again, grownAgain, countAgain)
			}
		}
	}
}
