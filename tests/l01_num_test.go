package tests

import (
	"math"
	"testing"

	"loop.example/g00450/impl"
)

const (
	lastMark = 4294967295
	half     = 2147483648
	round    = 4294967296
)

func marksToTry() []int64 {
	return []int64{0, 1, 2, 7, 999999999, 1000000000, 1000000001, half - 2, half - 1, half, half + 1, half + 1000000000,
		lastMark - 1000000001, lastMark - 1000000000, lastMark - 999999999, lastMark - 40, lastMark - 1, lastMark}
}

func placesToTry() []int64 {
	return []int64{0, 1, 2, 39, 40, 41, 400, 65535, 65536, 499999999, impl.MaxPlace - 40, impl.MaxPlace - 1, impl.MaxPlace}
}

func noMarks() []int64 {
	return []int64{-1, -2, -half, -half - 1, lastMark + 1, lastMark + 2, 2 * round, math.MinInt64, math.MinInt64 + 1, math.MaxInt64 - 1, math.MaxInt64}
}

func noPlaces() []int64 {
	return []int64{-1, -2, -half, impl.MaxPlace + 1, impl.MaxPlace + 2, half, lastMark, round, math.MinInt64, math.MinInt64 + 1, math.MaxInt64 - 1, math.MaxInt64}
}

func TestMaxPlace(t *testing.T) {
	if impl.MaxPlace != 1000000000 {
		t.Fatalf("MaxPlace is %d", impl.MaxPlace)
	}
}

func TestMarkOf(t *testing.T) {
	for _, c := range []struct{ start, place, want int64 }{
		{0, 0, 0},
		{5, 7, 12},
		{0, impl.MaxPlace, 1000000000},
		{lastMark, 0, lastMark},
		{lastMark, 1, 0},
		{lastMark, 2, 1},
		{lastMark - 1, 1, lastMark},
		{lastMark, impl.MaxPlace, 999999999},
		{half - 1, 1, half},
		{lastMark - impl.MaxPlace, impl.MaxPlace, lastMark},
		{lastMark - impl.MaxPlace + 1, impl.MaxPlace, 0},
	} {
		if got := impl.MarkOf(c.start, c.place); got != c.want {
			t.Errorf("MarkOf(%d, %d) = %d, want %d", c.start, c.place, got, c.want)
		}
	}
}

func TestMarkOfRefuses(t *testing.T) {
	for _, start := range noMarks() {
		for _, place := range append(placesToTry(), noPlaces()...) {
			if got := impl.MarkOf(start, place); got != -1 {
				t.Errorf("MarkOf(%d, %d) = %d, want -1", start, place, got)
			}
		}
	}
	for _, start := range marksToTry() {
		for _, place := range noPlaces() {
			if got := impl.MarkOf(start, place); got != -1 {
				t.Errorf("MarkOf(%d, %d) = %d, want -1", start, place, got)
			}
		}
	}
}

func TestAhead(t *testing.T) {
	for _, c := range []struct{ a, b, want int64 }{
		{0, 0, 0},
		{lastMark, lastMark, 0},
		{3, 10, 7},
		{10, 3, -7},
		{0, lastMark, -1},
		{lastMark, 0, 1},
		{lastMark, 1, 2},
		{1, lastMark, -2},
		{0, half - 1, half - 1},
		{0, half, -half},
		{half, 0, -half},
		{0, half + 1, -half + 1},
		{half + 1, 0, half - 1},
		{1, half, half - 1},
		{1, half + 1, -half},
		{lastMark, half - 2, half - 1},
		{lastMark, half - 1, -half},
		{half - 1, lastMark, -half},
	} {
		if got := impl.Ahead(c.a, c.b); got != c.want {
			t.Errorf("Ahead(%d, %d) = %d, want %d", c.a, c.b, got, c.want)
		}
	}
}

func TestAheadLeadsFromOneToTheOther(t *testing.T) {
	for _, a := range marksToTry() {
		for _, b := range marksToTry() {
			got := impl.Ahead(a, b)
			if got < -half || got > half-1 {
				t.Errorf("Ahead(%d, %d) = %d is longer than half way round", a, b, got)
			}
			if (a+got+round)%round != b {
				t.Errorf("Ahead(%d, %d) = %d does not lead there", a, b, got)
			}
			if back := impl.Ahead(b, a); got != -half && back != -got {
				t.Errorf("Ahead(%d, %d) = %d, but back it is %d", a, b, got, back)
			}
		}
	}
}

func TestAheadRefuses(t *testing.T) {
	for _, wrong := range noMarks() {
		for _, other := range append(marksToTry(), noMarks()...) {
			if got := impl.Ahead(wrong, other); got != -half-1 {
				t.Errorf("Ahead(%d, %d) = %d, want %d", wrong, other, got, -half-1)
			}
			if got := impl.Ahead(other, wrong); got != -half-1 {
				t.Errorf("Ahead(%d, %d) = %d, want %d", other, wrong, got, -half-1)
			}
		}
	}
}

func TestPlaceOf(t *testing.T) {
	for _, c := range []struct{ start, near, mark, want int64 }{
		{0, 0, 0, 0},
		{0, 10, 7, 7},
		{0, 7, 10, 10},
		{lastMark, 0, lastMark, 0},
		{lastMark, 0, 0, 1},
		{lastMark, 0, 1, 2},
		{lastMark, 2, lastMark, 0},
		{lastMark - 4, 3, 5, 10},
		{lastMark - 4, 10, lastMark - 1, 3},
		{0, 0, impl.MaxPlace, impl.MaxPlace},
		{0, impl.MaxPlace, 0, 0},
		{lastMark, impl.MaxPlace, 999999999, impl.MaxPlace},
		{lastMark, impl.MaxPlace, lastMark, 0},
		// no place below 0, none above MaxPlace
		{7, 5, 6, -1},
		{0, 0, lastMark, -1},
		{1, impl.MaxPlace, 0, -1},
		{0, 0, impl.MaxPlace + 1, -1},
		{0, impl.MaxPlace, impl.MaxPlace + 1, -1},
		{lastMark, impl.MaxPlace, impl.MaxPlace, -1},
		// half way round from the mark of near, and one less, to both sides
		{0, 0, half, -1},
		{0, 0, half - 1, -1},
		{0, 0, half + 1, -1},
		{0, impl.MaxPlace, impl.MaxPlace + half, -1},
		{0, impl.MaxPlace, impl.MaxPlace + half - 1, -1},
		{0, impl.MaxPlace, impl.MaxPlace + half + 1, -1},
		{half, 0, 0, -1},
		{half, 0, lastMark, -1},
		{half, 0, 1, -1},
		{lastMark, 1, half, -1},
		{lastMark, 1, half - 1, -1},
	} {
		if got := impl.PlaceOf(c.start, c.near, c.mark); got != c.want {
			t.Errorf("PlaceOf(%d, %d, %d) = %d, want %d", c.start, c.near, c.mark, got, c.want)
		}
	}
}

// Promise 1.
func TestPlaceOfMarkOfIsThePlace(t *testing.T) {
	for _, start := range marksToTry() {
		for _, place := range placesToTry() {
			for _, near := range placesToTry() {
				if got := impl.PlaceOf(start, near, impl.MarkOf(start, place)); got != place {
					t.Errorf("PlaceOf(%d, %d, MarkOf of %d) = %d", start, near, place, got)
				}
			}
		}
	}
}

// Promise 1, on a walk along which the marks go round and near lags behind.
func TestPlaceOfMarkOfOnAWalk(t *testing.T) {
	const start = lastMark - 1000
	near := int64(0)
	for place := int64(0); place <= 3000; place += 7 {
		if got := impl.PlaceOf(start, near, impl.MarkOf(start, place)); got != place {
			t.Fatalf("PlaceOf(%d, %d, MarkOf of %d) = %d", int64(start), near, place, got)
		}
		if place%5 == 0 {
			near = place
		}
	}
}

// Whatever mark is told: the one place that has it, worked out without wrap-round, or -1 where none has it.
func TestPlaceOfEveryKindOfMark(t *testing.T) {
	for _, start := range marksToTry() {
		for _, mark := range marksToTry() {
			want := (mark - start + round) % round
			if want > impl.MaxPlace {
				want = -1
			}
			for _, near := range placesToTry() {
				if got := impl.PlaceOf(start, near, mark); got != want {
					t.Errorf("PlaceOf(%d, %d, %d) = %d, want %d", start, near, mark, got, want)
				}
			}
		}
	}
}

func TestPlaceOfRefuses(t *testing.T) {
	refused := func(start, near, mark int64) {
		t.Helper()
		if got := impl.PlaceOf(start, near, mark); got != -1 {
			t.Errorf("PlaceOf(%d, %d, %d) = %d, want -1", start, near, mark, got)
		}
	}
	for _, wrong := range noMarks() {
		for _, near := range placesToTry() {
			for _, mark := range marksToTry() {
				refused(wrong, near, mark)
				refused(mark, near, wrong)
			}
			refused(wrong, near, wrong)
		}
	}
	for _, wrong := range noPlaces() {
		for _, start := range marksToTry() {
			for _, mark := range marksToTry() {
				refused(start, wrong, mark)
			}
		}
		refused(-1, wrong, -1)
	}
}
