package tests

import (
	"math"
	"math/big"
	"slices"
	"testing"

	"loop.example/g00450/impl"
)

func TestWaysToChoose(t *testing.T) {
	if impl.ChCheap != 1 || impl.ChNext != 2 || impl.ChSafe != 3 {
		t.Fatalf("they are %d, %d, %d", impl.ChCheap, impl.ChNext, impl.ChSafe)
	}
}

// lossOf is Lost by Sent as it is, with nothing rounded; 0 of 0 is 0.
func lossOf(one impl.Road) *big.Rat {
	if one.Sent == 0 {
		return new(big.Rat)
	}
	return big.NewRat(one.Lost, one.Sent)
}

// leastByWords asks of each road that is Open whether all others that are Open are more, or alike and behind it.
func leastByWords(l []impl.Road, compare func(a, b impl.Road) int) int64 {
	open := openByWords(l)
	for _, r := range open {
		is := true
		for _, other := range open {
			c := compare(l[r], l[other])
			is = is && (c < 0 || c == 0 && r <= other)
		}
		if is {
			return r
		}
	}
	return -1
}

func compareCosts(a, b impl.Road) int {
	return big.NewInt(a.Cost).Cmp(big.NewInt(b.Cost))
}

func compareLosses(a, b impl.Road) int {
	return lossOf(a).Cmp(lossOf(b))
}

// afterByWords goes the way step by step: from behind last to the end, then from the beginning to last itself.
func afterByWords(l []impl.Road, last int64) int64 {
	if !roadsOkByWords(l) || !isBetween(last, -1, int64(len(l))-1) {
		return -1
	}
	for r := last + 1; r < int64(len(l)); r++ {
		if l[r].Open {
			return r
		}
	}
	for r := int64(0); r <= last; r++ {
		if l[r].Open {
			return r
		}
	}
	return -1
}

func chosenByWords(l []impl.Road, way int64, last int64) int64 {
	switch way {
	case 1:
		return leastByWords(l, compareCosts)
	case 2:
		return afterByWords(l, last)
	case 3:
		return leastByWords(l, compareLosses)
	}
	return -1
}

func noWays() []int64 {
	return []int64{0, -1, -2, -3, 4, 5, 257, 258, 259, half, round + 1, round + 2, round + 3, -round + 1, math.MinInt64, math.MinInt64 + 1, math.MaxInt64}
}

func lastsOf(l []impl.Road) []int64 {
	list := []int64{-1}
	for k := range l {
		list = append(list, int64(k))
	}
	return list
}

func noLastsOf(l []impl.Road) []int64 {
	long := int64(len(l))
	return []int64{-2, -3, -long - 1, long, long + 1, 2 * long, math.MinInt32, math.MaxInt32, -round - 1, -round, round, round + 1, math.MinInt64, math.MinInt64 + 1, math.MaxInt64}
}

// withBits has the same roads, of which bits tell which ones are Open.
func withBits(l []impl.Road, bits int) []impl.Road {
	list := slices.Clone(l)
	for k := range list {
		list[k].Open = bits>>k&1 == 1
	}
	return list
}

// everyPattern calls with each list of one to four of these, in each order, open and closed in each pattern.
func everyPattern(few []impl.Road, call func(l []impl.Road)) {
	lists := [][]impl.Road{nil}
	for range mostRoads {
		var longer [][]impl.Road
		for _, l := range lists {
			for _, one := range few {
				longer = append(longer, append(slices.Clone(l), one))
			}
		}
		for _, l := range longer {
			for bits := range 1 << len(l) {
				call(withBits(l, bits))
			}
		}
		lists = longer
	}
}

// roadsOfCosts go against what is lost on them: who asks for the other number is told another road.
func roadsOfCosts() []impl.Road {
	return roads(openRoad(0, 9, 9), openRoad(1, 9, 3), openRoad(2, 9, 0), openRoad(lastPlace-1, 0, 0), openRoad(lastPlace, 9, 6))
}

// roadsOfLosses are alike by other numbers, or apart by less than a float would tell.
func roadsOfLosses() []impl.Road {
	const last = lastPlace
	return roads(openRoad(9, 0, 0), openRoad(8, 5, 0), openRoad(7, 2, 1), openRoad(6, 4, 2), openRoad(5, last, last), openRoad(4, last, last-1), openRoad(3, last-1, last-2))
}

// eachRightRoads calls with many Roads of every number, open and closed in any pattern.
func eachRightRoads(call func(l []impl.Road)) {
	for _, l := range rightRoads() {
		for bits := range 1 << len(l) {
			call(withBits(l, bits))
		}
	}
	everyPattern(roadsOfCosts(), call)
	everyPattern(roadsOfLosses(), call)
	for seed := range steps(2000) {
		call(someRoads(&seed))
	}
}

func isOpenOne(l []impl.Road, r int64) bool {
	return isBetween(r, 0, int64(len(l))-1) && l[r].Open
}

func TestChosenIsOpen(t *testing.T) {
	eachRightRoads(func(l []impl.Road) {
		none := !slices.ContainsFunc(l, func(one impl.Road) bool { return one.Open })
		check := func(name string, got int64, given ...int64) {
			if none && got != -1 || !none && !isOpenOne(l, got) {
				t.Fatalf("%s of %v, %v is %d", name, l, given, got)
			}
		}
		check("Cheapest", impl.Cheapest(l))
		check("Safest", impl.Safest(l))
		for _, last := range lastsOf(l) {
			check("AfterIt", impl.AfterIt(l, last), last)
			for way := int64(1); way <= 3; way++ {
				check("Chosen", impl.Chosen(l, way, last), way, last)
			}
		}
	})
}

// checkLeast holds what was told against each road that is Open: none is less, and none ahead of it is alike.
func checkLeast(t *testing.T, name string, l []impl.Road, got int64, compare func(a, b impl.Road) int) {
	t.Helper()
	for k, one := range l {
		if !one.Open {
			continue
		}
		if !isOpenOne(l, got) {
			t.Fatalf("%s of %v is %d", name, l, got)
		}
		if c := compare(one, l[got]); c < 0 || c == 0 && int64(k) < got {
			t.Fatalf("%s of %v is %d, not %d", name, l, got, k)
		}
	}
}

func TestCheapestIsTheFirstOfTheLeastCost(t *testing.T) {
	eachRightRoads(func(l []impl.Road) { checkLeast(t, "Cheapest", l, impl.Cheapest(l), compareCosts) })
}

func TestSafestIsTheFirstOfTheLeastLoss(t *testing.T) {
	eachRightRoads(func(l []impl.Road) { checkLeast(t, "Safest", l, impl.Safest(l), compareLosses) })
}

// Asked again and again with its own answer, from wherever it begins, it goes round all that are Open and no other.
func TestAfterItGoesRound(t *testing.T) {
	for _, few := range [][]impl.Road{manyRoads(1), manyRoads(2), manyRoads(3), manyRoads(4), shutAndOpen(4, 0), roadsOfCosts()[:4], roadsOfLosses()[:3]} {
		for bits := range 1 << len(few) {
			l := withBits(few, bits)
			for _, first := range lastsOf(l) {
				checkRound(t, l, first)
			}
		}
	}
}

func checkRound(t *testing.T, l []impl.Road, first int64) {
	t.Helper()
	open := openByWords(l)
	var behind, ahead []int64
	for _, r := range open {
		if r > first {
			behind = append(behind, r)
		} else {
			ahead = append(ahead, r)
		}
	}
	want := append(behind, ahead...)
	last := first
	for k := range 3 * len(open) {
		got := impl.AfterIt(l, last)
		if got != want[k%len(want)] {
			t.Fatalf("of %v from %d on, AfterIt of %d is %d, not %d", l, first, last, got, want[k%len(want)])
		}
		if chosen := impl.Chosen(l, impl.ChNext, last); chosen != got {
			t.Fatalf("of %v AfterIt of %d is %d, but Chosen %d", l, last, got, chosen)
		}
		last = got
	}
	if got := impl.AfterIt(l, first); len(open) == 0 && got != -1 {
		t.Fatalf("of %v, none Open, AfterIt of %d is %d", l, first, got)
	}
}

func TestCheapestOfNamedCases(t *testing.T) {
	const last = lastPlace
	for _, each := range []struct {
		name string
		list []impl.Road
		want int64
	}{
		{"the only one", roads(openRoad(5, 0, 0)), 0},
		{"the only one, of Cost 0", roads(openRoad(0, 0, 0)), 0},
		{"the only one, of Cost MaxPlace", roads(openRoad(last, 0, 0)), 0},
		{"the only one, closed", roads(closedRoad(0, 0, 0)), -1},
		{"the first of four", roads(openRoad(1, 0, 0), openRoad(2, 0, 0), openRoad(3, 0, 0), openRoad(4, 0, 0)), 0},
		{"the last of four", roads(openRoad(4, 0, 0), openRoad(3, 0, 0), openRoad(2, 0, 0), openRoad(1, 0, 0)), 3},
		{"one between", roads(openRoad(4, 0, 0), openRoad(1, 0, 0), openRoad(2, 0, 0), openRoad(3, 0, 0)), 1},
		{"none of four", roads(closedRoad(4, 0, 0), closedRoad(3, 0, 0), closedRoad(2, 0, 0), closedRoad(1, 0, 0)), -1},
		{"the least is closed", roads(openRoad(4, 0, 0), closedRoad(0, 0, 0), openRoad(3, 0, 0)), 2},
		{"the first is closed, and alike", roads(closedRoad(2, 0, 0), openRoad(2, 0, 0), openRoad(2, 0, 0)), 1},
		{"one alone is Open, the dearest", roads(closedRoad(0, 0, 0), closedRoad(1, 0, 0), closedRoad(2, 0, 0), openRoad(last, 0, 0)), 3},
		{"all alike", roads(openRoad(2, 5, 1), openRoad(2, 5, 1), openRoad(2, 5, 1), openRoad(2, 5, 1)), 0},
		{"equal Costs, else unlike", roads(openRoad(3, 9, 9), openRoad(2, 9, 8), openRoad(2, 9, 0)), 1},
		{"Costs 0 and 1", roads(openRoad(1, 0, 0), openRoad(0, last, last)), 1},
		{"Costs at MaxPlace and one below it", roads(openRoad(last, 0, 0), openRoad(last-1, last, last)), 1},
		{"all of Cost MaxPlace", roads(closedRoad(0, 0, 0), openRoad(last, 0, 0), openRoad(last, 0, 0)), 1},
	} {
		if got := impl.Cheapest(each.list); got != each.want {
			t.Errorf("%s: Cheapest is %d", each.name, got)
		}
	}
}

func TestSafestOfNamedCases(t *testing.T) {
	const last = lastPlace
	for _, each := range []struct {
		name string
		list []impl.Road
		want int64
	}{
		{"the only one", roads(openRoad(5, 8, 2)), 0},
		{"the only one, unused", roads(openRoad(5, 0, 0)), 0},
		{"the only one, all lost", roads(openRoad(5, last, last)), 0},
		{"the only one, closed", roads(closedRoad(5, 8, 0)), -1},
		{"the first of four", roads(openRoad(9, 10, 1), openRoad(8, 10, 2), openRoad(7, 10, 3), openRoad(6, 10, 4)), 0},
		{"the last of four", roads(openRoad(1, 10, 4), openRoad(2, 10, 3), openRoad(3, 10, 2), openRoad(4, 10, 1)), 3},
		{"none of four", roads(closedRoad(1, 1, 1), closedRoad(1, 0, 0), closedRoad(1, 2, 1), closedRoad(1, 2, 0)), -1},
		{"the safest is closed", roads(openRoad(1, 4, 3), closedRoad(1, 4, 0), openRoad(1, 4, 2)), 2},
		{"the unused one is closed", roads(openRoad(1, 4, 3), closedRoad(1, 0, 0), openRoad(1, 4, 2)), 2},
		{"one alone is Open, all lost", roads(closedRoad(0, 0, 0), closedRoad(0, 1, 0), closedRoad(0, 2, 1), openRoad(9, 3, 3)), 3},
		{"1 of 2 ahead of 2 of 4", roads(openRoad(9, 3, 2), openRoad(9, 2, 1), openRoad(1, 4, 2)), 1},
		{"2 of 4 ahead of 1 of 2", roads(openRoad(9, 3, 2), openRoad(9, 4, 2), openRoad(1, 2, 1)), 1},
		{"1 of 3 is less than 1 of 2", roads(openRoad(1, 2, 1), openRoad(9, 3, 1)), 1},
		{"2 of 5 is less than 1 of 2, though more are lost", roads(openRoad(1, 2, 1), openRoad(9, 5, 2)), 1},
		{"1 of 3 is more than 3 of 10", roads(openRoad(1, 3, 1), openRoad(9, 10, 3)), 1},
		{"0 of 0 ahead of 0 of some", roads(openRoad(9, 0, 0), openRoad(1, 5, 0)), 0},
		{"0 of some ahead of 0 of 0", roads(openRoad(9, 5, 0), openRoad(1, 0, 0)), 0},
		{"0 of 0 behind some of some", roads(openRoad(1, 5, 1), openRoad(9, 0, 0)), 1},
		{"0 of 0 ahead of some of some", roads(openRoad(9, 0, 0), openRoad(1, 5, 1)), 0},
		{"0 of 0 behind the least of all", roads(openRoad(1, last, 1), openRoad(9, 0, 0)), 1},
		{"0 of 0 between", roads(openRoad(1, 5, 1), openRoad(1, 0, 0), openRoad(1, 5, 2)), 1},
		{"0 of 0 between, 0 of some behind", roads(openRoad(1, 5, 1), openRoad(1, 0, 0), openRoad(1, 5, 0)), 1},
		{"0 of some between, 0 of 0 behind", roads(openRoad(1, 5, 1), openRoad(1, 5, 0), openRoad(1, 0, 0)), 1},
		{"0 of 0 twice", roads(openRoad(1, 5, 5), openRoad(3, 0, 0), openRoad(2, 0, 0)), 1},
		{"all lost of 1 and of MaxPlace", roads(openRoad(9, 1, 1), openRoad(1, last, last)), 0},
		{"all lost of MaxPlace and of 1", roads(openRoad(9, last, last), openRoad(1, 1, 1)), 0},
		{"all but one of MaxPlace", roads(openRoad(1, last, last), openRoad(9, last, last-1)), 1},
		{"less by less than a float tells", roads(openRoad(1, last, last-1), openRoad(9, last-1, last-2)), 1},
		{"more by less than a float tells", roads(openRoad(9, last-1, last-2), openRoad(1, last, last-1)), 0},
		{"1 of MaxPlace, and 1 of one below", roads(openRoad(1, last-1, 1), openRoad(9, last, 1)), 1},
		{"half of MaxPlace is 1 of 2", roads(openRoad(9, last, last/2), openRoad(1, 2, 1)), 0},
		{"all alike", roads(openRoad(2, 5, 1), openRoad(2, 5, 1), openRoad(2, 5, 1), openRoad(2, 5, 1)), 0},
	} {
		if got := impl.Safest(each.list); got != each.want {
			t.Errorf("%s: Safest is %d", each.name, got)
		}
	}
}

func TestAfterItOfNamedCases(t *testing.T) {
	for _, each := range []struct {
		name string
		list []impl.Road
		last int64
		want int64
	}{
		{"the only one, at first", shutAndOpen(1, 0b1), -1, 0},
		{"the only one, again", shutAndOpen(1, 0b1), 0, 0},
		{"the only one, one past it", shutAndOpen(1, 0b1), 1, -1},
		{"the only one, one below -1", shutAndOpen(1, 0b1), -2, -1},
		{"the only one, closed, at first", shutAndOpen(1, 0b0), -1, -1},
		{"the only one, closed, again", shutAndOpen(1, 0b0), 0, -1},
		{"all of four, at first", shutAndOpen(4, 0b1111), -1, 0},
		{"all of four, the next one", shutAndOpen(4, 0b1111), 0, 1},
		{"all of four, behind the last but one", shutAndOpen(4, 0b1111), 2, 3},
		{"all of four, behind the last", shutAndOpen(4, 0b1111), 3, 0},
		{"all of four, one past the last", shutAndOpen(4, 0b1111), 4, -1},
		{"all of four, one below -1", shutAndOpen(4, 0b1111), -2, -1},
		{"none of four, at first", shutAndOpen(4, 0b0000), -1, -1},
		{"none of four", shutAndOpen(4, 0b0000), 2, -1},
		{"closed ones are passed over", shutAndOpen(4, 0b1001), 0, 3},
		{"closed ones are passed over, at first", shutAndOpen(4, 0b1100), -1, 2},
		{"closed ones are passed over, from the beginning", shutAndOpen(4, 0b0110), 2, 1},
		{"last is closed, one is behind it", shutAndOpen(4, 0b1001), 1, 3},
		{"last is closed, all are ahead of it", shutAndOpen(4, 0b0110), 3, 1},
		{"last is closed, the first one", shutAndOpen(4, 0b0100), 0, 2},
		{"last is the only one Open", shutAndOpen(4, 0b0100), 2, 2},
		{"last is the only one Open, the last", shutAndOpen(4, 0b1000), 3, 3},
		{"last is the only one Open, the first", shutAndOpen(4, 0b0001), 0, 0},
		{"the first one alone, behind the last", shutAndOpen(4, 0b0001), 3, 0},
		{"the last one alone, at first", shutAndOpen(4, 0b1000), -1, 3},
		{"two, behind the last", shutAndOpen(2, 0b11), 1, 0},
		{"two, one past the last", shutAndOpen(2, 0b11), 2, -1},
		{"it asks for no Cost and no loss", roads(openRoad(9, 9, 9), openRoad(8, 8, 8), openRoad(0, 0, 0)), 0, 1},
	} {
		if got := impl.AfterIt(each.list, each.last); got != each.want {
			t.Errorf("%s: AfterIt is %d", each.name, got)
		}
		if got := impl.Chosen(each.list, impl.ChNext, each.last); got != each.want {
			t.Errorf("%s: Chosen is %d", each.name, got)
		}
	}
}

// Each way tells another road here, so that none is taken for another one.
func TestChosenOfNamedCases(t *testing.T) {
	l := roads(openRoad(3, 10, 0), openRoad(1, 10, 9), openRoad(2, 10, 5), closedRoad(0, 10, 0))
	for _, each := range []struct {
		name      string
		way, last int64
		want      int64
	}{
		{"the cheapest", 1, -1, 1},
		{"the next", 2, 1, 2},
		{"the next behind a closed one", 2, 3, 0},
		{"the safest", 3, -1, 0},
		{"the cheapest, last at the last road", 1, 3, 1},
		{"the safest, last at the last road", 3, 3, 0},
		{"the cheapest, last one past the last", 1, 4, 1},
		{"the next, last one past the last", 2, 4, -1},
		{"the safest, last one past the last", 3, 4, 0},
		{"the cheapest, last one below -1", 1, -2, 1},
		{"the next, last one below -1", 2, -2, -1},
		{"the safest, last one below -1", 3, -2, 0},
		{"way 0", 0, 0, -1},
		{"way 4", 4, 0, -1},
		{"way -1", -1, 0, -1},
		{"way 0, last out of range", 0, 4, -1},
		{"way 4, last out of range", 4, -2, -1},
	} {
		if got := impl.Chosen(l, each.way, each.last); got != each.want {
			t.Errorf("%s: Chosen is %d", each.name, got)
		}
	}
}

func TestChosenTellsWhatTheWayTells(t *testing.T) {
	eachRightRoads(func(l []impl.Road) {
		for _, last := range lastsOf(l) {
			for way, want := range map[int64]int64{1: impl.Cheapest(l), 2: impl.AfterIt(l, last), 3: impl.Safest(l)} {
				if got := impl.Chosen(l, way, last); got != want {
					t.Fatalf("Chosen of %v, %d, %d is %d, not %d", l, way, last, got, want)
				}
			}
		}
	})
}

// checkChoice holds all four calls, at each number that can matter to this list, against the document's words.
func checkChoice(t *testing.T, l []impl.Road) {
	t.Helper()
	if got, want := impl.Cheapest(l), chosenByWords(l, 1, -1); got != want {
		t.Fatalf("Cheapest of %v is %d, not %d", l, got, want)
	}
	if got, want := impl.Safest(l), chosenByWords(l, 3, -1); got != want {
		t.Fatalf("Safest of %v is %d, not %d", l, got, want)
	}
	for _, last := range append(lastsOf(l), noLastsOf(l)...) {
		if got, want := impl.AfterIt(l, last), afterByWords(l, last); got != want {
			t.Fatalf("AfterIt of %v, %d is %d, not %d", l, last, got, want)
		}
		for _, way := range append(noWays(), 1, 2, 3) {
			if got, want := impl.Chosen(l, way, last), chosenByWords(l, way, last); got != want {
				t.Fatalf("Chosen of %v, %d, %d is %d, not %d", l, way, last, got, want)
			}
		}
	}
}

func TestChoiceByWords(t *testing.T) {
	for _, l := range append(rightRoads(), wrongRoads()...) {
		checkChoice(t, l)
	}
	everyThreeRoads(func(l []impl.Road) { checkChoice(t, l) })
}

func TestNoneIsChosenOfWrongRoads(t *testing.T) {
	for _, l := range wrongRoads() {
		if cheap, safe := impl.Cheapest(l), impl.Safest(l); cheap != -1 || safe != -1 {
			t.Errorf("Cheapest and Safest of %v are %d, %d", l, cheap, safe)
		}
		for _, last := range append(lastsOf(l), noLastsOf(l)...) {
			if got := impl.AfterIt(l, last); got != -1 {
				t.Errorf("AfterIt of %v, %d is %d", l, last, got)
			}
			for _, way := range append(noWays(), 1, 2, 3) {
				if got := impl.Chosen(l, way, last); got != -1 {
					t.Errorf("Chosen of %v, %d, %d is %d", l, way, last, got)
				}
			}
		}
	}
}

func TestLastOutOfRange(t *testing.T) {
	for _, l := range rightRoads() {
		cheap, safe := impl.Cheapest(l), impl.Safest(l)
		for _, last := range noLastsOf(l) {
			if got := impl.AfterIt(l, last); got != -1 {
				t.Errorf("AfterIt of %v, %d is %d", l, last, got)
			}
			if got := impl.Chosen(l, impl.ChNext, last); got != -1 {
				t.Errorf("Chosen of %v, the next, %d is %d", l, last, got)
			}
			if got := impl.Chosen(l, impl.ChCheap, last); got != cheap {
				t.Errorf("Chosen of %v, the cheapest, %d is %d, not %d", l, last, got, cheap)
			}
			if got := impl.Chosen(l, impl.ChSafe, last); got != safe {
				t.Errorf("Chosen of %v, the safest, %d is %d, not %d", l, last, got, safe)
			}
		}
	}
}

func TestNoSuchWay(t *testing.T) {
	for _, l := range rightRoads() {
		for _, way := range noWays() {
			for _, last := range append(lastsOf(l), noLastsOf(l)...) {
				if got := impl.Chosen(l, way, last); got != -1 {
					t.Errorf("Chosen of %v, %d, %d is %d", l, way, last, got)
				}
			}
		}
	}
}

// Behind the roads lies a better one in the spare room: it is neither told of nor touched.
func TestChoiceKeepsWhatItWasGiven(t *testing.T) {
	for _, l := range append(rightRoads(), wrongRoads()...) {
		for _, last := range append(lastsOf(l), noLastsOf(l)...) {
			for way := int64(0); way <= 4; way++ {
				checkOwnRoads(t, "the choice", l, func(l []impl.Road) ([]impl.Road, []int64) {
					return nil, []int64{impl.Cheapest(l), impl.AfterIt(l, last), impl.Safest(l), impl.Chosen(l, way, last)}
				})
			}
		}
		given := sparePlaces(l, openRoad(0, 0, 0))
		was := slices.Clone(given[:cap(given)])
		checkChoice(t, given)
		if !slices.Equal(given[:cap(given)], was) {
			t.Fatalf("of %v, what was given is now %v", l, given[:cap(given)])
		}
	}
}
