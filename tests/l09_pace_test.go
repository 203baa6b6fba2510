package tests

import (
	"math"
	"testing"

	"loop.example/g00450/impl"
)

const (
	leastWait    = 200
	longestWait  = 60000
	mostMeasured = 480000
	mostTimes    = 20
)

func pace(mean, spread, wait, times int64) impl.Pace {
	return impl.Pace{Mean: mean, Spread: spread, Wait: wait, Times: times}
}

func isBetween(n, least, most int64) bool {
	return n >= least && n <= most
}

func paceOkByWords(p impl.Pace) bool {
	return isBetween(p.Mean, 0, 480000) && isBetween(p.Spread, 0, 480000) && isBetween(p.Wait, 200, 60000) && isBetween(p.Times, 0, 20)
}

func measuredByWords(p impl.Pace, took int64) impl.Pace {
	if !paceOkByWords(p) {
		return impl.Pace{}
	}
	if !isBetween(took, 0, 60000) {
		return p
	}
	next := impl.Pace{Mean: 8 * took, Spread: 2 * took}
	if p.Mean != 0 || p.Spread != 0 {
		mean := (p.Mean - p.Mean%8) / 8
		next.Mean = p.Mean + took - mean
		next.Spread = p.Spread - (p.Spread-p.Spread%4)/4
		if took > mean {
			next.Spread += took - mean
		} else {
			next.Spread += mean - took
		}
	}
	next.Wait = (next.Mean-next.Mean%8)/8 + next.Spread
	if next.Wait < 200 {
		next.Wait = 200
	}
	if next.Wait > 60000 {
		next.Wait = 60000
	}
	return next
}

func longerByWords(p impl.Pace) impl.Pace {
	if !paceOkByWords(p) {
		return impl.Pace{}
	}
	next := pace(p.Mean, p.Spread, p.Wait+p.Wait, p.Times+1)
	if next.Wait > 60000 {
		next.Wait = 60000
	}
	if next.Times > 20 {
		next.Times = 20
	}
	return next
}

// rightPaces have each field at its bounds, just within them and about each number that the document names, in every company.
func rightPaces() []impl.Pace {
	measures := []int64{0, 1, 3, 4, 7, 8, 9, 799, 800, 3100, 3200, 59999, 60000, 240000, 479992, 479999, mostMeasured}
	var list []impl.Pace
	for _, mean := range measures {
		for _, spread := range measures {
			for _, wait := range []int64{leastWait, leastWait + 1, 1000, 29999, 30000, 30001, longestWait - 1, longestWait} {
				for _, times := range []int64{0, 1, 19, mostTimes} {
					list = append(list, pace(mean, spread, wait, times))
				}
			}
		}
	}
	return list
}

// spoiltPaces are p with one field out of range, by each field alone.
func spoiltPaces(p impl.Pace) []impl.Pace {
	var list []impl.Pace
	for _, n := range []int64{-1, mostMeasured + 1, -8, math.MinInt64, math.MaxInt64} {
		list = append(list, pace(n, p.Spread, p.Wait, p.Times), pace(p.Mean, n, p.Wait, p.Times))
	}
	for _, n := range []int64{leastWait - 1, longestWait + 1, 0, -1, -leastWait, math.MinInt64, math.MaxInt64} {
		list = append(list, pace(p.Mean, p.Spread, n, p.Times))
	}
	for _, n := range []int64{-1, mostTimes + 1, math.MinInt64, math.MaxInt64} {
		list = append(list, pace(p.Mean, p.Spread, p.Wait, n))
	}
	return list
}

func wrongPaces() []impl.Pace {
	list := []impl.Pace{
		{},
		pace(-1, -1, leastWait-1, -1),
		pace(mostMeasured+1, mostMeasured+1, longestWait+1, mostTimes+1),
		pace(math.MinInt64, math.MinInt64, math.MinInt64, math.MinInt64),
		pace(math.MaxInt64, math.MaxInt64, math.MaxInt64, math.MaxInt64),
		pace(-1, mostMeasured+1, 1000, 0),
		pace(3200, 800, leastWait-1, mostTimes+1),
	}
	for _, p := range []impl.Pace{
		pace(0, 0, 1000, 0),
		pace(3200, 800, 1200, 0),
		pace(0, 800, 800, 3),
		pace(3200, 0, 400, 3),
		pace(0, 0, leastWait, 0),
		pace(mostMeasured, mostMeasured, longestWait, mostTimes),
	} {
		list = append(list, spoiltPaces(p)...)
	}
	return list
}

func tookToTry() []int64 {
	return []int64{0, 1, 2, 7, 8, 40, 66, 67, 99, 100, 101, 300, 399, 400, 401, 1000, 19999, 20000, 20001, 30000, 59998, 59999, longestWait}
}

func noTook() []int64 {
	return []int64{-1, longestWait + 1, -2, -longestWait, 2 * longestWait, mostMeasured, math.MinInt64, math.MinInt64 + 1, math.MaxInt64 - 1, math.MaxInt64}
}

func TestPaceLimits(t *testing.T) {
	if impl.MaxWait != 60000 || impl.MinWait != 200 {
		t.Errorf("MaxWait is %d, MinWait %d", impl.MaxWait, impl.MinWait)
	}
}

func TestPaceOk(t *testing.T) {
	for _, p := range rightPaces() {
		if !impl.PaceOk(p) {
			t.Errorf("PaceOk says no to %v", p)
		}
	}
	for _, p := range wrongPaces() {
		if impl.PaceOk(p) {
			t.Errorf("PaceOk says yes to %v", p)
		}
	}
}

// A Wait is held against its own bounds alone, not against what Mean and Spread would make of it.
func TestPaceOkOfAnyWait(t *testing.T) {
	for wait := int64(-10); wait <= longestWait+10; wait++ {
		p := pace(3200, 800, wait, 2)
		if got := impl.PaceOk(p); got != isBetween(wait, 200, 60000) {
			t.Fatalf("PaceOk of %v is %v", p, got)
		}
	}
}

func TestNewPace(t *testing.T) {
	p := impl.NewPace()
	if p != pace(0, 0, 1000, 0) || !impl.PaceOk(p) {
		t.Errorf("NewPace is %v", p)
	}
	impl.Longer(impl.Measured(p, 400))
	if again := impl.NewPace(); again != p {
		t.Errorf("behind other calls NewPace is %v", again)
	}
}

func TestMeasuredOfNamedCases(t *testing.T) {
	for _, c := range []struct {
		name string
		p    impl.Pace
		took int64
		want impl.Pace
	}{
		{"the first measure", pace(0, 0, 1000, 0), 400, pace(3200, 800, 1200, 0)},
		{"the first measure, asked again ahead of it", pace(0, 0, 8000, 3), 400, pace(3200, 800, 1200, 0)},
		{"the first measure is 0", pace(0, 0, 1000, 5), 0, pace(0, 0, 200, 0)},
		{"a first measure behind a 0", pace(0, 0, 200, 0), 100, pace(800, 200, 300, 0)},
		{"the first measure is 1", pace(0, 0, 1000, 0), 1, pace(8, 2, 200, 0)},
		{"the first measure is MaxWait", pace(0, 0, 1000, 0), 60000, pace(480000, 120000, 60000, 0)},
		{"the first measure, Wait just below MinWait", pace(0, 0, 1000, 0), 66, pace(528, 132, 200, 0)},
		{"the first measure, Wait just above MinWait", pace(0, 0, 1000, 0), 67, pace(536, 134, 201, 0)},
		{"the first measure, Wait just at MaxWait", pace(0, 0, 1000, 0), 20000, pace(160000, 40000, 60000, 0)},
		{"the first measure, Wait just below MaxWait", pace(0, 0, 1000, 0), 19999, pace(159992, 39998, 59997, 0)},
		{"the first measure, Wait just above MaxWait", pace(0, 0, 1000, 0), 20001, pace(160008, 40002, 60000, 0)},
		{"Mean 0 with a Spread", pace(0, 800, 800, 0), 400, pace(400, 1000, 1050, 0)},
		{"Mean 0 with a Spread of 1", pace(0, 1, 200, 0), 400, pace(400, 401, 451, 0)},
		{"Mean 0 with a Spread, took 0", pace(0, 800, 800, 0), 0, pace(0, 600, 600, 0)},
		{"a Mean with no Spread", pace(3200, 0, 400, 0), 400, pace(3200, 0, 400, 0)},
		{"a Mean with no Spread, took more", pace(3200, 0, 400, 0), 500, pace(3300, 100, 512, 0)},
		{"a Mean of 1 with no Spread", pace(1, 0, 200, 0), 400, pace(401, 400, 450, 0)},
		{"d above 0", pace(3200, 800, 1200, 0), 500, pace(3300, 700, 1112, 0)},
		{"d at 0", pace(3200, 800, 1200, 0), 400, pace(3200, 600, 1000, 0)},
		{"d at 0, with a rest of the Mean", pace(3207, 800, 1200, 0), 400, pace(3207, 600, 1000, 0)},
		{"d just below 0, by the Mean alone", pace(3208, 800, 1200, 0), 400, pace(3207, 601, 1001, 0)},
		{"d below 0", pace(3200, 800, 1200, 0), 300, pace(3100, 700, 1087, 0)},
		{"d below 0 by 1", pace(3200, 800, 1200, 0), 399, pace(3199, 601, 1000, 0)},
		{"d below 0 as far as can be", pace(480000, 480000, 60000, 0), 0, pace(420000, 420000, 60000, 0)},
		{"d above 0 as far as can be", pace(0, 480000, 60000, 0), 60000, pace(60000, 420000, 60000, 0)},
		{"Mean at MaxWait times 8, took MaxWait", pace(480000, 0, 60000, 0), 60000, pace(480000, 0, 60000, 0)},
		{"Mean one below that", pace(479999, 0, 60000, 0), 60000, pace(480000, 1, 60000, 0)},
		{"Spread at MaxWait times 8", pace(3200, 480000, 60000, 0), 400, pace(3200, 360000, 60000, 0)},
		{"a Spread of 3 has no fourth", pace(3200, 3, 403, 0), 400, pace(3200, 3, 403, 0)},
		{"a Spread of 4 has one", pace(3200, 4, 404, 0), 400, pace(3200, 3, 403, 0)},
		{"a Spread of 7 has just one", pace(3200, 7, 407, 0), 400, pace(3200, 6, 406, 0)},
		{"Wait one below MinWait", pace(800, 132, 232, 0), 100, pace(800, 99, 200, 0)},
		{"Wait just at MinWait", pace(800, 133, 233, 0), 100, pace(800, 100, 200, 0)},
		{"Wait one above MinWait", pace(800, 134, 234, 0), 100, pace(800, 101, 201, 0)},
		{"Wait one below MaxWait", pace(80000, 66665, 60000, 0), 10000, pace(80000, 49999, 59999, 0)},
		{"Wait just at MaxWait", pace(80000, 66666, 60000, 0), 10000, pace(80000, 50000, 60000, 0)},
		{"Wait one above MaxWait", pace(80000, 66668, 60000, 0), 10000, pace(80000, 50001, 60000, 0)},
		{"it was asked again", pace(3200, 800, 9600, 3), 400, pace(3200, 600, 1000, 0)},
		{"it was asked again as often as counts", pace(3200, 800, 60000, 20), 400, pace(3200, 600, 1000, 0)},
		{"took one below 0", pace(3200, 800, 9600, 3), -1, pace(3200, 800, 9600, 3)},
		{"took one past MaxWait", pace(3200, 800, 9600, 3), 60001, pace(3200, 800, 9600, 3)},
		{"took one below 0, nothing measured yet", pace(0, 0, 1000, 0), -1, pace(0, 0, 1000, 0)},
		{"took one past MaxWait, nothing measured yet", pace(0, 0, 2000, 1), 60001, pace(0, 0, 2000, 1)},
		{"wrong by Mean", pace(-1, 800, 1200, 0), 400, impl.Pace{}},
		{"wrong by Spread", pace(3200, 480001, 1200, 0), 400, impl.Pace{}},
		{"wrong by Wait", pace(3200, 800, 199, 0), 400, impl.Pace{}},
		{"wrong by Times", pace(3200, 800, 1200, 21), 400, impl.Pace{}},
		{"wrong, and took is, too", pace(3200, 800, 60001, 0), 60001, impl.Pace{}},
		{"the zero one", impl.Pace{}, 400, impl.Pace{}},
	} {
		if got := impl.Measured(c.p, c.took); got != c.want {
			t.Errorf("%s: Measured is %v", c.name, got)
		}
	}
}

func TestLongerOfNamedCases(t *testing.T) {
	for _, c := range []struct {
		name string
		p    impl.Pace
		want impl.Pace
	}{
		{"a new one", pace(0, 0, 1000, 0), pace(0, 0, 2000, 1)},
		{"one that was measured", pace(3100, 700, 1087, 0), pace(3100, 700, 2174, 1)},
		{"Wait at MinWait", pace(8, 2, 200, 0), pace(8, 2, 400, 1)},
		{"Wait one below half of MaxWait", pace(3200, 800, 29999, 4), pace(3200, 800, 59998, 5)},
		{"Wait at half of MaxWait", pace(3200, 800, 30000, 4), pace(3200, 800, 60000, 5)},
		{"Wait one above half of MaxWait", pace(3200, 800, 30001, 4), pace(3200, 800, 60000, 5)},
		{"Wait one below MaxWait", pace(3200, 800, 59999, 6), pace(3200, 800, 60000, 7)},
		{"Wait at MaxWait", pace(3200, 800, 60000, 6), pace(3200, 800, 60000, 7)},
		{"Times 0", pace(480000, 480000, 60000, 0), pace(480000, 480000, 60000, 1)},
		{"Times 19", pace(3200, 800, 60000, 19), pace(3200, 800, 60000, 20)},
		{"Times 20", pace(3200, 800, 60000, 20), pace(3200, 800, 60000, 20)},
		{"Times 20, a Wait that can be longer", pace(3200, 800, 700, 20), pace(3200, 800, 1400, 20)},
		{"wrong by Mean", pace(480001, 800, 1200, 0), impl.Pace{}},
		{"wrong by Spread", pace(3200, -1, 1200, 0), impl.Pace{}},
		{"wrong by Wait, below", pace(3200, 800, 199, 0), impl.Pace{}},
		{"wrong by Wait, above", pace(3200, 800, 60001, 0), impl.Pace{}},
		{"wrong by Times, below", pace(3200, 800, 1200, -1), impl.Pace{}},
		{"wrong by Times, above", pace(3200, 800, 1200, 21), impl.Pace{}},
		{"the zero one", impl.Pace{}, impl.Pace{}},
	} {
		if got := impl.Longer(c.p); got != c.want {
			t.Errorf("%s: Longer is %v", c.name, got)
		}
	}
}

// checkPace holds all calls of this Pace against the document's words, twice, and asks whether it kept what it held.
func checkPace(t *testing.T, p impl.Pace, took []int64) {
	t.Helper()
	given := p
	for range 2 {
		if got := impl.PaceOk(given); got != paceOkByWords(p) {
			t.Fatalf("PaceOk of %v is %v", p, got)
		}
		for _, n := range took {
			if got := impl.Measured(given, n); got != measuredByWords(p, n) {
				t.Fatalf("Measured of %v, %d is %v, not %v", p, n, got, measuredByWords(p, n))
			}
		}
		if got := impl.Longer(given); got != longerByWords(p) {
			t.Fatalf("Longer of %v is %v, not %v", p, got, longerByWords(p))
		}
	}
	if given != p {
		t.Fatalf("%v is now %v", p, given)
	}
}

func TestPacesByWords(t *testing.T) {
	took := append(tookToTry(), noTook()...)
	for _, p := range append(rightPaces(), wrongPaces()...) {
		checkPace(t, p, took)
	}
}

func TestPacesOfSmallMeasuresByWords(t *testing.T) {
	took := []int64{0, 1, 2, 3, 4, 5}
	for mean := range int64(40) {
		for spread := range int64(40) {
			checkPace(t, pace(mean, spread, 1000, 1), took)
		}
	}
}

func TestWrongPacesAreRefused(t *testing.T) {
	for _, p := range wrongPaces() {
		if got := impl.Longer(p); got != (impl.Pace{}) {
			t.Errorf("Longer of %v is %v", p, got)
		}
		for _, n := range append(tookToTry(), noTook()...) {
			if got := impl.Measured(p, n); got != (impl.Pace{}) {
				t.Errorf("Measured of %v, %d is %v", p, n, got)
			}
		}
	}
}

func TestTookOutOfRangeChangesNothing(t *testing.T) {
	for _, p := range rightPaces() {
		for _, n := range noTook() {
			if got := impl.Measured(p, n); got != p {
				t.Fatalf("Measured of %v, %d is %v", p, n, got)
			}
		}
	}
}

// someTook is mostly a measure near to what there was, at times any one, a bound, or one out of range.
func someTook(p impl.Pace, seed *steps) int64 {
	switch seed.below(6) {
	case 0:
		return seed.below(longestWait + 1)
	case 1:
		return longestWait * seed.below(2)
	case 2:
		return noTook()[seed.below(int64(len(noTook())))]
	default:
		return p.Mean/8 + seed.below(41) - 20
	}
}

func TestPaceStaysRight(t *testing.T) {
	for seed := range steps(200) {
		p := impl.NewPace()
		for range 400 {
			before := p
			if seed.below(3) == 0 {
				p = impl.Longer(before)
				if p != longerByWords(before) {
					t.Fatalf("Longer of %v is %v", before, p)
				}
			} else {
				took := someTook(before, &seed)
				p = impl.Measured(before, took)
				if p != measuredByWords(before, took) {
					t.Fatalf("Measured of %v, %d is %v", before, took, p)
				}
			}
			if !impl.PaceOk(p) || !paceOkByWords(p) {
				t.Fatalf("behind %v there is %v", before, p)
			}
		}
	}
}

func TestAnyRightPaceStaysRight(t *testing.T) {
	for _, p := range rightPaces() {
		if got := impl.Longer(p); !impl.PaceOk(got) || !paceOkByWords(got) {
			t.Fatalf("Longer of %v is %v", p, got)
		}
		for _, took := range tookToTry() {
			if got := impl.Measured(p, took); !impl.PaceOk(got) || !paceOkByWords(got) {
				t.Fatalf("Measured of %v, %d is %v", p, took, got)
			}
		}
	}
}

// waitOfOne is what a Wait comes to of took alone: of the Spread the last 3 stay, since these have no fourth.
func waitOfOne(took int64) int64 {
	return max(leastWait, min(longestWait, took+3))
}

func TestOneMeasureAgainAndAgain(t *testing.T) {
	for took := int64(0); took <= longestWait; took += 1 + took/50 {
		p := impl.NewPace()
		for n := range 120 {
			before := p
			p = impl.Measured(p, took)
			if p.Mean != 8*took || p.Times != 0 {
				t.Fatalf("of %d for the %dth time it is %v", took, n+1, p)
			}
			if n > 0 && (p.Spread > before.Spread || p.Wait > before.Wait) {
				t.Fatalf("of %d again, %v comes to be %v", took, before, p)
			}
		}
		if p.Wait != waitOfOne(took) || impl.Measured(p, took) != p {
			t.Fatalf("of %d again and again it is %v", took, p)
		}
	}
}

// meanOfOne is where a Mean stops: it tells took from the side from which it came.
func meanOfOne(mean int64, took int64) int64 {
	return max(8*took, min(mean, 8*took+7))
}

func TestOneMeasureAgainAndAgainOfAnyPace(t *testing.T) {
	for _, p := range rightPaces() {
		if p.Wait != 1000 || p.Times != 1 {
			continue
		}
		for _, took := range tookToTry() {
			checkComesTo(t, p, took)
		}
	}
}

func checkComesTo(t *testing.T, p impl.Pace, took int64) {
	t.Helper()
	now := p
	for range 400 {
		now = impl.Measured(now, took)
	}
	wantMean := meanOfOne(p.Mean, took)
	if now.Mean != wantMean || now.Mean/8 != took || now.Spread > 3 || now.Times != 0 {
		t.Fatalf("of %d again and again %v comes to be %v", took, p, now)
	}
	if now.Wait != max(leastWait, min(longestWait, took+now.Spread)) {
		t.Fatalf("of %d again and again %v has the Wait of %v", took, p, now)
	}
	if impl.Measured(now, took) != now {
		t.Fatalf("of %d again %v does not stay", took, now)
	}
}

func TestLongerAgainAndAgain(t *testing.T) {
	p := impl.NewPace()
	for n, wait := range []int64{2000, 4000, 8000, 16000, 32000, 60000, 60000} {
		p = impl.Longer(p)
		if p != pace(0, 0, wait, int64(n)+1) {
			t.Fatalf("Longer for the %dth time is %v", n+1, p)
		}
	}
	for n := int64(8); n <= 40; n++ {
		p = impl.Longer(p)
		if p != pace(0, 0, 60000, min(n, 20)) {
			t.Fatalf("Longer for the %dth time is %v", n, p)
		}
	}
	if got := impl.Measured(p, 400); got != pace(3200, 800, 1200, 0) {
		t.Errorf("where it was measured at last it is %v", got)
	}
}

// What is measured does not hang on how often it was made Longer ahead of it.
func TestMeasuredForgetsTheWait(t *testing.T) {
	for _, took := range tookToTry() {
		p := impl.Measured(impl.NewPace(), 400)
		want := impl.Measured(p, took)
		for range 25 {
			p = impl.Longer(p)
			if got := impl.Measured(p, took); got != want {
				t.Fatalf("Measured of %v, %d is %v, not %v", p, took, got, want)
			}
		}
	}
}
