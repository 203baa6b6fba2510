package tests

import (
	"math"
	"slices"
	"testing"

	"loop.example/g00450/impl"
)

const mostRoads = 4

func openRoad(cost, sent, lost int64) impl.Road {
	return impl.Road{Open: true, Cost: cost, Sent: sent, Lost: lost}
}

func closedRoad(cost, sent, lost int64) impl.Road {
	return impl.Road{Cost: cost, Sent: sent, Lost: lost}
}

func roads(list ...impl.Road) []impl.Road {
	return list
}

func roadOkByWords(one impl.Road) bool {
	return isBetween(one.Cost, 0, lastPlace) && isBetween(one.Sent, 0, lastPlace) && isBetween(one.Lost, 0, lastPlace) && one.Lost <= one.Sent
}

func roadsOkByWords(l []impl.Road) bool {
	is := len(l) >= 1 && len(l) <= 4
	for _, one := range l {
		is = is && roadOkByWords(one)
	}
	return is
}

func turnByWords(l []impl.Road, r int64, open bool) ([]impl.Road, bool) {
	if !roadsOkByWords(l) {
		return nil, false
	}
	list, is := slices.Clone(l), false
	for k := range list {
		if int64(k) == r && list[k].Open != open {
			list[k].Open, is = open, true
		}
	}
	return list, is
}

func usedByWords(l []impl.Road, r int64, lost bool) ([]impl.Road, bool) {
	if !roadsOkByWords(l) {
		return nil, false
	}
	list, is := slices.Clone(l), false
	for k := range list {
		if int64(k) != r || list[k].Sent == lastPlace {
			continue
		}
		list[k].Sent, is = list[k].Sent+1, true
		if lost {
			list[k].Lost = list[k].Lost + 1
		}
	}
	return list, is
}

func openByWords(l []impl.Road) []int64 {
	if !roadsOkByWords(l) {
		return nil
	}
	var list []int64
	for k, one := range l {
		if one.Open {
			list = append(list, int64(k))
		}
	}
	return list
}

// rightRoadsAlone have each number at its bounds and just within them, in every company, Open and not.
func rightRoadsAlone() []impl.Road {
	var list []impl.Road
	for _, cost := range []int64{0, 1, lastPlace - 1, lastPlace} {
		for _, sent := range []int64{0, 1, 2, lastPlace - 1, lastPlace} {
			for _, lost := range []int64{0, 1, sent - 1, sent} {
				if lost >= 0 && lost <= sent {
					list = append(list, openRoad(cost, sent, lost), closedRoad(cost, sent, lost))
				}
			}
		}
	}
	return list
}

// wrongRoadsAlone are wrong by one number alone, by Lost above Sent, or by all.
func wrongRoadsAlone() []impl.Road {
	var list []impl.Road
	for _, n := range noPlaces() {
		list = append(list, openRoad(n, 5, 2), closedRoad(n, 5, 2), openRoad(n, 0, 0), openRoad(1, n, 0), closedRoad(1, n, 0), openRoad(1, 5, n), closedRoad(1, lastPlace, n), closedRoad(n, n, n))
	}
	for _, sent := range []int64{0, 1, 7, lastPlace - 1, lastPlace} {
		list = append(list, openRoad(1, sent, sent+1), closedRoad(1, sent, sent+1))
	}
	return append(list, openRoad(1, -1, -1), closedRoad(1, -1, -2), openRoad(1, lastPlace+1, lastPlace+1), closedRoad(1, 0, lastPlace))
}

func manyRoads(n int) []impl.Road {
	some := roads(openRoad(1, 9, 2), closedRoad(2, 7, 7), openRoad(3, 0, 0), closedRoad(lastPlace, lastPlace, 0))
	var list []impl.Road
	for k := range n {
		list = append(list, some[k%len(some)])
	}
	return list
}

// shutAndOpen has roads that are alike but for Open, which bits tell.
func shutAndOpen(n int, bits int) []impl.Road {
	list := make([]impl.Road, n)
	for k := range list {
		list[k] = impl.Road{Open: bits>>k&1 == 1, Cost: 2, Sent: 5, Lost: 1}
	}
	return list
}

func rightRoads() [][]impl.Road {
	list := [][]impl.Road{
		roads(impl.Road{}),
		roads(impl.Road{}, impl.Road{}, impl.Road{}, impl.Road{}),
		roads(openRoad(1, 2, 1), openRoad(1, 2, 1)),
		roads(openRoad(1, 2, 1), closedRoad(1, 2, 1), openRoad(1, 2, 1)),
		roads(closedRoad(5, 6, 3), openRoad(4, 0, 0), closedRoad(5, 6, 3), openRoad(4, 0, 0)),
		roads(openRoad(lastPlace, lastPlace, lastPlace), openRoad(0, 0, 0), closedRoad(lastPlace, lastPlace-1, lastPlace-1)),
		roads(openRoad(9, lastPlace, 0), openRoad(9, lastPlace, 0)),
	}
	for n := 1; n <= mostRoads; n++ {
		list = append(list, manyRoads(n))
		for bits := range 1 << n {
			list = append(list, shutAndOpen(n, bits))
		}
	}
	for _, one := range rightRoadsAlone() {
		list = append(list, roads(one), roads(one, closedRoad(1, 4, 2), openRoad(2, 3, 0), one))
	}
	return list
}

func wrongRoads() [][]impl.Road {
	list := [][]impl.Road{nil, {}, manyRoads(5), manyRoads(6), manyRoads(200), shutAndOpen(5, 31), shutAndOpen(5, 0), make([]impl.Road, 5)}
	for _, one := range wrongRoadsAlone() {
		list = append(list, roads(one), roads(one, one), roads(one, one, one, one))
		for n := 2; n <= mostRoads; n++ {
			for k := range n {
				l := manyRoads(n)
				l[k] = one
				list = append(list, l)
			}
		}
		list = append(list, append(manyRoads(4), one))
	}
	return list
}

// numbersToTry are each road's number, one past each end and what is far out of range.
func numbersToTry(l []impl.Road) []int64 {
	list := append(noRoads(), -2, int64(len(l)), math.MaxInt32, math.MinInt32, round, round+1, -round, math.MinInt64+1)
	for k := range l {
		list = append(list, int64(k))
	}
	return list
}

func TestRoadsOk(t *testing.T) {
	for _, l := range rightRoads() {
		if !impl.RoadsOk(l) {
			t.Errorf("RoadsOk says no to %v", l)
		}
	}
	for _, l := range wrongRoads() {
		if impl.RoadsOk(l) {
			t.Errorf("RoadsOk says yes to %v", l)
		}
	}
}

func TestRoadsOkCountsRoads(t *testing.T) {
	for n := range 40 {
		for name, l := range map[string][]impl.Road{"all alike": make([]impl.Road, n), "several": manyRoads(n)} {
			if got := impl.RoadsOk(l); got != (n >= 1 && n <= 4) {
				t.Errorf("RoadsOk of %d, %s, is %v", n, name, got)
			}
		}
	}
}

func TestTurnOfNamedCases(t *testing.T) {
	a, b, c, d := openRoad(1, 9, 2), closedRoad(2, 7, 7), openRoad(3, 0, 0), closedRoad(lastPlace, lastPlace, 0)
	for _, each := range []struct {
		name string
		list []impl.Road
		r    int64
		open bool
		want []impl.Road
		is   bool
	}{
		{"the only one opens", roads(b), 0, true, roads(openRoad(2, 7, 7)), true},
		{"the only one closes", roads(a), 0, false, roads(closedRoad(1, 9, 2)), true},
		{"the first one", roads(a, b, c, d), 0, false, roads(closedRoad(1, 9, 2), b, c, d), true},
		{"the last one", roads(a, b, c, d), 3, true, roads(a, b, c, openRoad(lastPlace, lastPlace, 0)), true},
		{"one between", roads(a, b, c, d), 1, true, roads(a, openRoad(2, 7, 7), c, d), true},
		{"the zero one opens", roads(impl.Road{}), 0, true, roads(impl.Road{Open: true}), true},
		{"it was Open", roads(a, b), 0, true, roads(a, b), false},
		{"it was not Open", roads(a, b), 1, false, roads(a, b), false},
		{"the first of two alike", roads(a, a), 0, false, roads(closedRoad(1, 9, 2), a), true},
		{"the second of two alike", roads(b, b), 1, true, roads(b, openRoad(2, 7, 7)), true},
		{"one of two alike that was so", roads(a, a), 1, true, roads(a, a), false},
		{"it comes to be alike another one", roads(a, closedRoad(1, 9, 2)), 1, true, roads(a, a), true},
		{"one below the first", roads(a, b), -1, true, roads(a, b), false},
		{"one past the last", roads(a, b), 2, true, roads(a, b), false},
		{"one past the last of four", roads(a, b, c, d), 4, false, roads(a, b, c, d), false},
		{"one past the only one", roads(b), 1, true, roads(b), false},
		{"none", nil, 0, true, nil, false},
		{"none, and none such", nil, -1, true, nil, false},
		{"too many", roads(a, b, c, d, a), 1, true, nil, false},
		{"too many, the last one", roads(a, b, c, d, b), 4, true, nil, false},
		{"too many, and none such", roads(a, b, c, d, a), 5, true, nil, false},
		{"wrong by Cost", roads(a, closedRoad(-1, 0, 0)), 0, false, nil, false},
		{"wrong by Sent", roads(openRoad(1, lastPlace+1, 0), b), 1, true, nil, false},
		{"wrong by Lost", roads(b, openRoad(1, 5, -1)), 0, true, nil, false},
		{"more Lost than Sent", roads(closedRoad(1, 5, 6), b), 0, true, nil, false},
		{"wrong, and it was so", roads(a, closedRoad(lastPlace+1, 0, 0)), 0, true, nil, false},
		{"wrong, and one below the first", roads(a, closedRoad(lastPlace+1, 0, 0)), -1, true, nil, false},
		{"wrong, and one past the last", roads(closedRoad(0, 0, 1), a), 2, true, nil, false},
	} {
		if got, is := impl.Turn(each.list, each.r, each.open); is != each.is || !slices.Equal(got, each.want) {
			t.Errorf("%s: Turn is %v, %v", each.name, got, is)
		}
	}
}

func TestUsedOfNamedCases(t *testing.T) {
	const last = lastPlace
	a, b, c, d := openRoad(1, 9, 2), closedRoad(2, 7, 7), openRoad(3, 0, 0), closedRoad(last, last, 0)
	for _, each := range []struct {
		name string
		list []impl.Road
		r    int64
		lost bool
		want []impl.Road
		is   bool
	}{
		{"the first one", roads(a, b, c, d), 0, false, roads(openRoad(1, 10, 2), b, c, d), true},
		{"the first one, lost", roads(a, b, c, d), 0, true, roads(openRoad(1, 10, 3), b, c, d), true},
		{"one that is not Open", roads(a, b, c, d), 1, false, roads(a, closedRoad(2, 8, 7), c, d), true},
		{"one that is not Open, lost", roads(a, b, c, d), 1, true, roads(a, closedRoad(2, 8, 8), c, d), true},
		{"for the first time", roads(a, b, c, d), 2, false, roads(a, b, openRoad(3, 1, 0), d), true},
		{"for the first time, lost", roads(a, b, c, d), 2, true, roads(a, b, openRoad(3, 1, 1), d), true},
		{"the only one", roads(impl.Road{}), 0, true, roads(closedRoad(0, 1, 1)), true},
		{"the last of four", roads(d, c, b, a), 3, true, roads(d, c, b, openRoad(1, 10, 3)), true},
		{"the first of two alike", roads(a, a), 0, true, roads(openRoad(1, 10, 3), a), true},
		{"the second of two alike", roads(a, a), 1, false, roads(a, openRoad(1, 10, 2)), true},
		{"Sent one below MaxPlace", roads(openRoad(1, last-1, 2)), 0, false, roads(openRoad(1, last, 2)), true},
		{"Sent one below MaxPlace, lost", roads(openRoad(1, last-1, 2)), 0, true, roads(openRoad(1, last, 3)), true},
		{"all Lost, one below MaxPlace", roads(openRoad(1, last-1, last-1)), 0, true, roads(openRoad(1, last, last)), true},
		{"Sent at MaxPlace", roads(a, d), 1, false, roads(a, d), false},
		{"Sent at MaxPlace, lost", roads(a, d), 1, true, roads(a, d), false},
		{"Sent at MaxPlace, Lost one below it, lost", roads(openRoad(1, last, last-1)), 0, true, roads(openRoad(1, last, last-1)), false},
		{"Sent and Lost at MaxPlace, lost", roads(openRoad(1, last, last)), 0, true, roads(openRoad(1, last, last)), false},
		{"Cost at MaxPlace", roads(openRoad(last, 0, 0)), 0, false, roads(openRoad(last, 1, 0)), true},
		{"one below the first", roads(a, b), -1, true, roads(a, b), false},
		{"one past the last", roads(a, b), 2, false, roads(a, b), false},
		{"one past the last of four", roads(a, b, c, d), 4, true, roads(a, b, c, d), false},
		{"none", nil, 0, false, nil, false},
		{"none, and none such", nil, -1, true, nil, false},
		{"too many", roads(a, b, c, d, a), 1, true, nil, false},
		{"too many, the last one", roads(a, b, c, d, a), 4, false, nil, false},
		{"wrong by Cost", roads(a, closedRoad(-1, 0, 0)), 0, false, nil, false},
		{"wrong by Sent", roads(openRoad(1, last+1, 0), b), 0, true, nil, false},
		{"wrong by Lost", roads(b, openRoad(1, 5, -1)), 1, true, nil, false},
		{"more Lost than Sent, but not behind it", roads(openRoad(1, 5, 6)), 0, false, nil, false},
		{"wrong, and Sent at MaxPlace", roads(d, closedRoad(last+1, 0, 0)), 0, true, nil, false},
		{"wrong, and one below the first", roads(a, closedRoad(last+1, 0, 0)), -1, true, nil, false},
		{"wrong, and one past the last", roads(closedRoad(0, 0, 1), a), 2, false, nil, false},
	} {
		if got, is := impl.Used(each.list, each.r, each.lost); is != each.is || !slices.Equal(got, each.want) {
			t.Errorf("%s: Used is %v, %v", each.name, got, is)
		}
	}
}

func TestOpenOnesOfNamedCases(t *testing.T) {
	a, b := openRoad(1, 9, 2), closedRoad(2, 7, 7)
	for _, each := range []struct {
		name string
		list []impl.Road
		want []int64
	}{
		{"the only one", roads(a), []int64{0}},
		{"the only one, not Open", roads(b), nil},
		{"the last one alone", roads(b, b, b, a), []int64{3}},
		{"the first one alone", roads(a, b, b, b), []int64{0}},
		{"all, all alike", roads(a, a, a, a), []int64{0, 1, 2, 3}},
		{"all, none alike", roads(openRoad(9, 0, 0), openRoad(7, 3, 3), openRoad(8, 5, 0), a), []int64{0, 1, 2, 3}},
		{"all, alike in turns", roads(a, openRoad(0, 0, 0), a, openRoad(0, 0, 0)), []int64{0, 1, 2, 3}},
		{"two alike about one that is not Open", roads(a, b, a), []int64{0, 2}},
		{"none of four", roads(b, b, b, b), nil},
		{"none of four, none alike", roads(closedRoad(9, 0, 0), closedRoad(7, 3, 3), closedRoad(8, 5, 0), b), nil},
		{"alike but for Open", roads(closedRoad(1, 9, 2), a), []int64{1}},
		{"no roads", nil, nil},
		{"five", roads(a, a, a, a, a), nil},
		{"the first one wrong", roads(openRoad(1, 1, 2), a), nil},
		{"the last one wrong", roads(a, a, a, openRoad(-1, 1, 1)), nil},
		{"one between wrong", roads(a, openRoad(1, lastPlace+1, 1), a), nil},
		{"one that is not Open wrong", roads(a, closedRoad(1, 1, -1)), nil},
	} {
		if got := impl.OpenOnes(each.list); !slices.Equal(got, each.want) {
			t.Errorf("%s: OpenOnes is %v", each.name, got)
		}
	}
}

// checkRoads holds all four calls, at each number that can matter to this list, against the document's words.
func checkRoads(t *testing.T, l []impl.Road) {
	t.Helper()
	if got := impl.RoadsOk(l); got != roadsOkByWords(l) {
		t.Fatalf("RoadsOk of %v is %v", l, got)
	}
	if got := impl.OpenOnes(l); !slices.Equal(got, openByWords(l)) {
		t.Fatalf("OpenOnes of %v is %v", l, got)
	}
	for _, r := range numbersToTry(l) {
		for _, flag := range []bool{false, true} {
			got, is := impl.Turn(l, r, flag)
			if want, should := turnByWords(l, r, flag); is != should || !slices.Equal(got, want) {
				t.Fatalf("Turn of %v, %d, %v is %v, %v", l, r, flag, got, is)
			}
			got, is = impl.Used(l, r, flag)
			if want, should := usedByWords(l, r, flag); is != should || !slices.Equal(got, want) {
				t.Fatalf("Used of %v, %d, %v is %v, %v", l, r, flag, got, is)
			}
		}
	}
}

// everyThreeRoads calls with each list of up to three of a few Roads, in each order.
func everyThreeRoads(call func(l []impl.Road)) {
	few := roads(openRoad(0, 0, 0), closedRoad(0, 0, 0), openRoad(1, 2, 1), closedRoad(1, 2, 2), openRoad(lastPlace, lastPlace, 3), closedRoad(0, lastPlace-1, lastPlace-1),
		openRoad(-1, 1, 1), openRoad(1, -1, 0), closedRoad(1, 1, -1), openRoad(1, 1, 2), closedRoad(lastPlace+1, 0, 0), openRoad(0, lastPlace+1, 0))
	call(nil)
	for _, a := range few {
		call(roads(a))
		for _, b := range few {
			call(roads(a, b))
			for _, c := range few {
				call(roads(a, b, c))
			}
		}
	}
}

func TestRoadsByWords(t *testing.T) {
	for _, l := range append(rightRoads(), wrongRoads()...) {
		checkRoads(t, l)
	}
	everyThreeRoads(func(l []impl.Road) { checkRoads(t, l) })
}

func TestWrongRoadsAreRefused(t *testing.T) {
	for _, l := range wrongRoads() {
		if got := impl.OpenOnes(l); len(got) > 0 {
			t.Errorf("OpenOnes of %v is %v", l, got)
		}
		for _, r := range numbersToTry(l) {
			for _, flag := range []bool{false, true} {
				if got, is := impl.Turn(l, r, flag); is || len(got) > 0 {
					t.Errorf("Turn of %v, %d, %v is %v, %v", l, r, flag, got, is)
				}
				if got, is := impl.Used(l, r, flag); is || len(got) > 0 {
					t.Errorf("Used of %v, %d, %v is %v, %v", l, r, flag, got, is)
				}
			}
		}
	}
}

// Asked often: the order in which a map is gone through differs from call to call, the answer must not.
func TestOpenOnesRiseEachTime(t *testing.T) {
	l := roads(openRoad(4, 1, 0), openRoad(3, 2, 1), openRoad(2, 3, 2), openRoad(1, 4, 3))
	for range 500 {
		if got := impl.OpenOnes(l); !slices.Equal(got, []int64{0, 1, 2, 3}) {
			t.Fatalf("OpenOnes is %v", got)
		}
	}
}

// tally is told of each road apart from the program: what it was at first, and what was done to it since.
type tally struct {
	first []impl.Road
	open  []bool
	sent  []int64
	lost  []int64
	l     []impl.Road
}

func newTally(l []impl.Road) *tally {
	c := &tally{first: l, l: l, sent: make([]int64, len(l)), lost: make([]int64, len(l))}
	for _, one := range l {
		c.open = append(c.open, one.Open)
	}
	return c
}

func (c *tally) hasRoad(r int64) bool {
	return r >= 0 && r < int64(len(c.first))
}

func (c *tally) turns(t *testing.T, r int64, open bool) {
	t.Helper()
	l, is := impl.Turn(c.l, r, open)
	if is != (c.hasRoad(r) && c.open[r] != open) {
		t.Fatalf("Turn of %v, %d, %v is %v, %v", c.l, r, open, l, is)
	}
	if c.hasRoad(r) {
		c.open[r] = open
	}
	c.l = l
}

func (c *tally) uses(t *testing.T, r int64, lost bool) {
	t.Helper()
	l, is := impl.Used(c.l, r, lost)
	if is != (c.hasRoad(r) && c.first[r].Sent+c.sent[r] < lastPlace) {
		t.Fatalf("Used of %v, %d, %v is %v, %v", c.l, r, lost, l, is)
	}
	if is {
		c.sent[r]++
	}
	if is && lost {
		c.lost[r]++
	}
	c.l = l
}

func (c *tally) stands(t *testing.T) {
	t.Helper()
	if !impl.RoadsOk(c.l) || !roadsOkByWords(c.l) || len(c.l) != len(c.first) {
		t.Fatalf("of %v it is %v", c.first, c.l)
	}
	var open []int64
	for k, one := range c.first {
		want := impl.Road{Open: c.open[k], Cost: one.Cost, Sent: one.Sent + c.sent[k], Lost: one.Lost + c.lost[k]}
		if c.l[k] != want {
			t.Fatalf("of %v road %d is %v, not %v", c.first, k, c.l[k], want)
		}
		if c.open[k] {
			open = append(open, int64(k))
		}
	}
	if got := impl.OpenOnes(c.l); !slices.Equal(got, open) {
		t.Fatalf("OpenOnes of %v is %v", c.l, got)
	}
}

func someRoads(seed *steps) []impl.Road {
	list := make([]impl.Road, 1+seed.below(mostRoads))
	for k := range list {
		sent := []int64{0, 3, 1000, lastPlace - 30, lastPlace - 1, lastPlace}[seed.below(6)]
		list[k] = impl.Road{Open: seed.below(2) == 1, Cost: seed.below(3), Sent: sent, Lost: []int64{0, sent / 2, sent}[seed.below(3)]}
	}
	return list
}

func TestRoadsCount(t *testing.T) {
	for seed := range steps(300) {
		c := newTally(someRoads(&seed))
		c.stands(t)
		for range 300 {
			r, flag := seed.below(int64(len(c.first))+2)-1, seed.below(2) == 1
			if seed.below(3) == 0 {
				c.turns(t, r, flag)
			} else {
				c.uses(t, r, flag)
			}
			c.stands(t)
		}
	}
}

// A road that is used up to MaxPlace counts to just there, whatever is lost on it.
func TestRoadsCountUpToMaxPlace(t *testing.T) {
	for _, lost := range []bool{false, true} {
		for _, wasLost := range []int64{0, lastPlace - 50} {
			c := newTally(roads(openRoad(1, 0, 0), closedRoad(2, lastPlace-50, wasLost), openRoad(1, 0, 0)))
			for range 60 {
				c.uses(t, 1, lost)
				c.stands(t)
			}
			if c.l[1].Sent != lastPlace || c.sent[1] != 50 {
				t.Errorf("it is %v", c.l)
			}
		}
	}
}

// All four roads may begin alike: what is done to one is told of that one alone.
func TestAlikeRoadsAreToldApart(t *testing.T) {
	for r := range int64(mostRoads) {
		c := newTally(shutAndOpen(mostRoads, 15))
		c.turns(t, r, false)
		c.stands(t)
		c.uses(t, r, true)
		c.stands(t)
		c.turns(t, r, true)
		c.stands(t)
		for other := range int64(mostRoads) {
			if want := openRoad(2, 5, 1); other != r && c.l[other] != want {
				t.Errorf("beside road %d, road %d is %v", r, other, c.l[other])
			}
		}
		if want := openRoad(2, 6, 2); c.l[r] != want {
			t.Errorf("road %d is %v", r, c.l[r])
		}
	}
}

func TestTurnThereAndBack(t *testing.T) {
	for _, l := range rightRoads() {
		for k, one := range l {
			there, is := impl.Turn(l, int64(k), !one.Open)
			if same, no := impl.Turn(there, int64(k), !one.Open); !is || no || !slices.Equal(same, there) {
				t.Fatalf("of %v road %d turned is %v, %v, and again %v, %v", l, k, there, is, same, no)
			}
			if again, is := impl.Turn(there, int64(k), one.Open); !is || !slices.Equal(again, l) {
				t.Fatalf("of %v road %d there and back is %v, %v", l, k, again, is)
			}
		}
	}
}

// checkOwnRoads writes over what was given and what was answered, spare room and all: the other one stays.
func checkOwnRoads(t *testing.T, name string, l []impl.Road, call func(l []impl.Road) ([]impl.Road, []int64)) {
	t.Helper()
	given := sparePlaces(l, openRoad(500, 500, 500))
	was := slices.Clone(given[:cap(given)])
	got, numbers := call(given)
	if !slices.Equal(given[:cap(given)], was) {
		t.Fatalf("%s of %v: what was given is now %v", name, l, given[:cap(given)])
	}
	want, told := slices.Clone(got), slices.Clone(numbers)
	scratchAll(given, openRoad(99, 99, 99))
	if !slices.Equal(got, want) || !slices.Equal(numbers, told) {
		t.Fatalf("%s of %v: the answer is now %v, %v", name, l, got, numbers)
	}
	copy(given[:cap(given)], was)
	scratchAll(got, closedRoad(77, 77, 77))
	scratchAll(numbers, 77)
	if !slices.Equal(given[:cap(given)], was) {
		t.Fatalf("%s of %v: behind the answer, what was given is now %v", name, l, given[:cap(given)])
	}
	if again, numbers := call(given); !slices.Equal(again, want) || !slices.Equal(numbers, told) {
		t.Fatalf("%s of %v: asked again it is %v, %v", name, l, again, numbers)
	}
}

func TestRoadsShareNothing(t *testing.T) {
	for _, l := range append(rightRoads(), wrongRoads()...) {
		for _, r := range numbersToTry(l) {
			for _, flag := range []bool{false, true} {
				checkOwnRoads(t, "Turn", l, func(l []impl.Road) ([]impl.Road, []int64) {
					got, _ := impl.Turn(l, r, flag)
					return got, nil
				})
				checkOwnRoads(t, "Used", l, func(l []impl.Road) ([]impl.Road, []int64) {
					got, _ := impl.Used(l, r, flag)
					return got, nil
				})
			}
		}
		checkOwnRoads(t, "OpenOnes", l, func(l []impl.Road) ([]impl.Road, []int64) { return nil, impl.OpenOnes(l) })
		checkOwnRoads(t, "RoadsOk", l, func(l []impl.Road) ([]impl.Road, []int64) {
			impl.RoadsOk(l)
			return nil, nil
		})
	}
}
