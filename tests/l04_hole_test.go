package tests

import (
	"math"
	"slices"
	"testing"

	"loop.example/g00450/impl"
)

func span(from, to int64) impl.Span {
	return impl.Span{From: from, To: to}
}

// spans takes From and To of one behind From and To of the other.
func spans(places ...int64) []impl.Span {
	var list []impl.Span
	for k := 0; k < len(places); k += 2 {
		list = append(list, span(places[k], places[k+1]))
	}
	return list
}

// rowOf tells, place by place from 0 on, what is there, as the document says it: from From on, below To.
func rowOf(l []impl.Span, ahead int64, width int) []bool {
	row := make([]bool, width)
	for _, s := range l {
		for place := s.From; place < s.To; place++ {
			row[place-ahead] = true
		}
	}
	return row
}

// spansOf is the one way to tell a row by Spans, none of which touches the next.
func spansOf(row []bool, ahead int64) []impl.Span {
	var list []impl.Span
	for k, there := range row {
		place := ahead + int64(k)
		if there && k > 0 && row[k-1] {
			list[len(list)-1].To = place + 1
		} else if there {
			list = append(list, span(place, place+1))
		}
	}
	return list
}

// rowOfBits: bit k tells whether place k is there.
func rowOfBits(bits int, width int) []bool {
	row := make([]bool, width)
	for k := range row {
		row[k] = bits>>k&1 == 1
	}
	return row
}

// manySpans are n of two places each, with a hole of two behind each, from place ahead on.
func manySpans(n int, ahead int64) []impl.Span {
	var list []impl.Span
	for k := range n {
		from := ahead + 4*int64(k)
		list = append(list, span(from, from+2))
	}
	return list
}

func rightSpans() [][]impl.Span {
	return [][]impl.Span{
		nil,
		{},
		spans(0, 1),
		spans(0, impl.MaxPlace),
		spans(impl.MaxPlace-1, impl.MaxPlace),
		spans(1, 3, 5, 8),
		spans(0, 1, 2, 3),
		spans(0, 1, 2, 3, 4, impl.MaxPlace),
		spans(7, 9, 400, 65536, 499999999, impl.MaxPlace-40, impl.MaxPlace-1, impl.MaxPlace),
		manySpans(impl.MaxSpans-1, 0),
		manySpans(impl.MaxSpans, 0),
		manySpans(impl.MaxSpans, impl.MaxPlace-4*impl.MaxSpans+2),
	}
}

func noSpans() []impl.Span {
	list := spans(0, 0, 4, 4, 5, 4, 1, 0, impl.MaxPlace, impl.MaxPlace, impl.MaxPlace, impl.MaxPlace-1, impl.MaxPlace, 0,
		math.MinInt64, math.MaxInt64, math.MaxInt64, math.MinInt64, -2, -1, impl.MaxPlace+1, impl.MaxPlace+2, math.MinInt64, math.MinInt64)
	for _, p := range noPlaces() {
		list = append(list, span(0, p), span(2, p), span(p, 7), span(p, impl.MaxPlace), span(p, p))
	}
	return list
}

func wrongSpans() [][]impl.Span {
	list := [][]impl.Span{
		spans(1, 3, 3, 5),
		spans(1, 4, 3, 5),
		spans(1, 3, 1, 3),
		spans(5, 8, 1, 3),
		spans(0, 9, 2, 4),
		spans(2, 4, 0, 9),
		spans(1, 3, 5, 8, 8, 9),
		spans(1, 3, 5, 8, 6, 7),
		spans(0, impl.MaxPlace, impl.MaxPlace, impl.MaxPlace),
		manySpans(impl.MaxSpans+1, 0),
		manySpans(impl.MaxSpans+2, 9),
		manySpans(4*impl.MaxSpans, 0),
	}
	for _, s := range noSpans() {
		list = append(list, []impl.Span{s}, []impl.Span{span(0, 1), s}, []impl.Span{s, span(impl.MaxPlace-1, impl.MaxPlace)}, []impl.Span{span(0, 1), s, span(20, 30)})
	}
	return list
}

func TestSpansOk(t *testing.T) {
	for _, l := range rightSpans() {
		if !impl.SpansOk(l) {
			t.Errorf("SpansOk says no to %v", l)
		}
	}
	for _, l := range wrongSpans() {
		if impl.SpansOk(l) {
			t.Errorf("SpansOk says yes to %v", l)
		}
	}
	if impl.MaxSpans != 30 {
		t.Errorf("MaxSpans is %d", impl.MaxSpans)
	}
}

func TestSpansOkAtTheEdges(t *testing.T) {
	for _, c := range []struct {
		name string
		list []impl.Span
		want bool
	}{
		{"none", nil, true},
		{"one place", spans(0, 1), true},
		{"From is To", spans(1, 1), false},
		{"From above To", spans(2, 1), false},
		{"From one less than 0", spans(-1, 1), false},
		{"To MaxPlace", spans(0, 1000000000), true},
		{"To one more", spans(0, 1000000001), false},
		{"From MaxPlace", spans(1000000000, 1000000001), false},
		{"a hole of one place", spans(1, 3, 4, 5), true},
		{"no hole", spans(1, 3, 3, 5), false},
		{"one over the other", spans(1, 4, 3, 5), false},
		{"the later one first", spans(4, 5, 1, 3), false},
		{"just MaxSpans", manySpans(30, 0), true},
		{"one more", manySpans(31, 0), false},
	} {
		if got := impl.SpansOk(c.list); got != c.want {
			t.Errorf("%s: SpansOk is %v", c.name, got)
		}
	}
}

func TestAdded(t *testing.T) {
	two := spans(10, 20, 30, 40)
	for _, c := range []struct {
		name string
		list []impl.Span
		span impl.Span
		want []impl.Span
	}{
		{"to none", nil, span(5, 8), spans(5, 8)},
		{"all there can be", nil, span(0, impl.MaxPlace), spans(0, impl.MaxPlace)},
		{"the last place", nil, span(impl.MaxPlace-1, impl.MaxPlace), spans(impl.MaxPlace-1, impl.MaxPlace)},
		{"ahead of all", two, span(0, 5), spans(0, 5, 10, 20, 30, 40)},
		{"ahead, a hole of one place", two, span(5, 9), spans(5, 9, 10, 20, 30, 40)},
		{"ahead, no hole", two, span(5, 10), spans(5, 20, 30, 40)},
		{"ahead and into the first", two, span(5, 15), spans(5, 20, 30, 40)},
		{"inside", two, span(12, 15), two},
		{"just one that is there", two, span(10, 20), two},
		{"from its From on", two, span(30, 31), two},
		{"up to its To", two, span(39, 40), two},
		{"over one", two, span(9, 21), spans(9, 21, 30, 40)},
		{"out of the first", two, span(15, 25), spans(10, 25, 30, 40)},
		{"behind the first, no hole", two, span(20, 25), spans(10, 25, 30, 40)},
		{"between, holes of one place", two, span(21, 29), spans(10, 20, 21, 29, 30, 40)},
		{"between, a hole ahead", two, span(21, 30), spans(10, 20, 21, 40)},
		{"between, a hole behind", two, span(20, 29), spans(10, 29, 30, 40)},
		{"between, no hole", two, span(20, 30), spans(10, 40)},
		{"across the hole", two, span(15, 35), spans(10, 40)},
		{"over both", two, span(5, 45), spans(5, 45)},
		{"over all there can be", two, span(0, impl.MaxPlace), spans(0, impl.MaxPlace)},
		{"from the first one's end over the second", two, span(20, 45), spans(10, 45)},
		{"behind all, no hole", two, span(40, 45), spans(10, 20, 30, 45)},
		{"behind all, a hole of one place", two, span(41, 45), spans(10, 20, 30, 40, 41, 45)},
		{"behind all, up to MaxPlace", two, span(50, impl.MaxPlace), spans(10, 20, 30, 40, 50, impl.MaxPlace)},
	} {
		got, is := impl.Added(c.list, c.span)
		if !is || !slices.Equal(got, c.want) {
			t.Errorf("%s: %v and %v, want %v", c.name, got, is, c.want)
		}
	}
}

// checkAdded asks promise 4 of every place of a row.
func checkAdded(t *testing.T, l []impl.Span, s impl.Span, ahead int64, width int) {
	t.Helper()
	got, is := impl.Added(l, s)
	row := rowOf(l, ahead, width)
	for place := s.From; place < s.To; place++ {
		row[place-ahead] = true
	}
	if want := spansOf(row, ahead); !is || !slices.Equal(got, want) {
		t.Fatalf("Added of %v to %v is %v and %v, want %v", s, l, got, is, want)
	}
	if !impl.SpansOk(got) || !impl.HasAll(got, s) {
		t.Fatalf("Added of %v to %v is %v: are they right? %v; is it there? %v", s, l, got, impl.SpansOk(got), impl.HasAll(got, s))
	}
	for k := range row {
		place := ahead + int64(k)
		if one := span(place, place+1); impl.HasAll(got, one) != row[k] {
			t.Fatalf("Added of %v to %v: is place %d there? %v", s, l, place, !row[k])
		}
	}
}

// Promise 4, of every row of nine places and every Span in it, at both ends of the places and between.
func TestAddedIsThereAndAllElseAsBefore(t *testing.T) {
	const width = 9
	for _, ahead := range []int64{0, 1, 65531, impl.MaxPlace - width} {
		for bits := range 1 << width {
			l := spansOf(rowOfBits(bits, width), ahead)
			for from := range int64(width) {
				for to := from + 1; to <= width; to++ {
					checkAdded(t, l, span(ahead+from, ahead+to), ahead, width)
				}
			}
		}
	}
}

// Promise 4, one Span behind another, in an order that comes back to where it was.
func TestAddedOneByOne(t *testing.T) {
	const width = 101
	for step := int64(1); step < width; step++ {
		var l []impl.Span
		for k := int64(0); k < width && len(l) < impl.MaxSpans; k++ {
			from := k * step % width
			s := span(from, min(from+1+k%3, width))
			checkAdded(t, l, s, 0, width)
			l, _ = impl.Added(l, s)
		}
	}
}

func TestAddedTwiceIsAddedOnce(t *testing.T) {
	for _, l := range rightSpans() {
		for _, s := range spans(0, 1, 3, 400, 0, impl.MaxPlace, impl.MaxPlace-1, impl.MaxPlace) {
			once, is := impl.Added(l, s)
			if !is {
				continue
			}
			if twice, again := impl.Added(once, s); !again || !slices.Equal(once, twice) {
				t.Errorf("%v to %v: once %v, twice %v and %v", s, l, once, twice, again)
			}
		}
	}
}

func TestAddedUpToMaxSpans(t *testing.T) {
	fewer, full := manySpans(impl.MaxSpans-1, 8), manySpans(impl.MaxSpans, 8)
	if got, is := impl.Added(fewer, full[impl.MaxSpans-1]); !is || !slices.Equal(got, full) {
		t.Errorf("just MaxSpans: %v and %v", got, is)
	}
	if got, is := impl.Added(fewer, span(0, 2)); !is || len(got) != impl.MaxSpans {
		t.Errorf("just MaxSpans, ahead: %v and %v", got, is)
	}
	last := full[impl.MaxSpans-1].To
	var wide []impl.Span
	for k := range int64(impl.MaxSpans) {
		wide = append(wide, span(8+6*k, 10+6*k))
	}
	for _, c := range []struct {
		name string
		list []impl.Span
		span impl.Span
	}{
		{"ahead", full, span(0, 7)},
		{"behind", full, span(last+1, last+2)},
		{"far behind", full, span(impl.MaxPlace-1, impl.MaxPlace)},
		{"between", wide, span(11, 13)},
	} {
		if got, is := impl.Added(c.list, c.span); is || !slices.Equal(got, c.list) {
			t.Errorf("one more, %s: %v and %v", c.name, got, is)
		}
	}
}

// Where there are MaxSpans, one more is taken when it becomes one with those that are there.
func TestAddedToMaxSpansThatItTouches(t *testing.T) {
	full := manySpans(impl.MaxSpans, 8)
	last := full[impl.MaxSpans-1].To
	for _, c := range []struct {
		name string
		span impl.Span
		want int
	}{
		{"ahead", span(0, 8), impl.MaxSpans},
		{"behind", span(last, impl.MaxPlace), impl.MaxSpans},
		{"inside", span(9, 10), impl.MaxSpans},
		{"just the last one", full[impl.MaxSpans-1], impl.MaxSpans},
		{"behind one", span(10, 11), impl.MaxSpans},
		{"ahead of one", span(11, 12), impl.MaxSpans},
		{"between two", span(10, 12), impl.MaxSpans - 1},
		{"across three", span(9, 17), impl.MaxSpans - 2},
		{"over all", span(0, impl.MaxPlace), 1},
	} {
		got, is := impl.Added(full, c.span)
		if !is || len(got) != c.want || !impl.SpansOk(got) || !impl.HasAll(got, c.span) {
			t.Errorf("%s: %v and %v", c.name, got, is)
		}
		for _, s := range full {
			if !impl.HasAll(got, s) {
				t.Errorf("%s: %v is not there any more", c.name, s)
			}
		}
	}
}

func TestAddedRefuses(t *testing.T) {
	for _, l := range rightSpans() {
		for _, s := range noSpans() {
			if got, is := impl.Added(l, s); is || !slices.Equal(got, l) {
				t.Errorf("Added of %v to %v is %v and %v", s, l, got, is)
			}
		}
	}
	for _, l := range wrongSpans() {
		for _, s := range append(noSpans(), span(0, 1), span(5, 8), span(0, impl.MaxPlace)) {
			if got, is := impl.Added(l, s); is || len(got) != 0 {
				t.Errorf("Added of %v to the wrong %v is %v and %v", s, l, got, is)
			}
		}
	}
}

func TestCut(t *testing.T) {
	two := spans(10, 20, 30, 40)
	for _, c := range []struct {
		name string
		list []impl.Span
		at   int64
		want []impl.Span
	}{
		{"of none", nil, 0, nil},
		{"of none, at MaxPlace", nil, impl.MaxPlace, nil},
		{"at 0", two, 0, two},
		{"ahead of all", two, 9, two},
		{"at a From", two, 10, two},
		{"just behind a From", two, 11, spans(11, 20, 30, 40)},
		{"just ahead of a To", two, 19, spans(19, 20, 30, 40)},
		{"at a To", two, 20, spans(30, 40)},
		{"in the hole", two, 25, spans(30, 40)},
		{"at the last From", two, 30, spans(30, 40)},
		{"inside the last one", two, 35, spans(35, 40)},
		{"at the last To", two, 40, nil},
		{"behind all", two, 41, nil},
		{"at MaxPlace", spans(0, impl.MaxPlace), impl.MaxPlace, nil},
		{"one less", spans(0, impl.MaxPlace), impl.MaxPlace - 1, spans(impl.MaxPlace-1, impl.MaxPlace)},
		{"of MaxSpans at 0", manySpans(impl.MaxSpans, 0), 0, manySpans(impl.MaxSpans, 0)},
		{"of MaxSpans behind the first", manySpans(impl.MaxSpans, 0), 4, manySpans(impl.MaxSpans-1, 4)},
	} {
		if got := impl.Cut(c.list, c.at); !slices.Equal(got, c.want) {
			t.Errorf("%s: %v, want %v", c.name, got, c.want)
		}
	}
}

func TestCutLeavesJustWhatIsNotBelow(t *testing.T) {
	const width = 9
	for _, ahead := range []int64{0, 1, impl.MaxPlace - width} {
		for bits := range 1 << width {
			l := spansOf(rowOfBits(bits, width), ahead)
			for at := int64(0); at <= width; at++ {
				row := rowOf(l, ahead, width)
				clear(row[:at])
				got, want := impl.Cut(l, ahead+at), spansOf(row, ahead)
				if !slices.Equal(got, want) || !impl.SpansOk(got) {
					t.Fatalf("Cut of %v at %d is %v, want %v", l, ahead+at, got, want)
				}
			}
		}
	}
}

func TestCutRefuses(t *testing.T) {
	for _, l := range rightSpans() {
		for _, at := range noPlaces() {
			if got := impl.Cut(l, at); len(got) != 0 {
				t.Errorf("Cut of %v at %d is %v", l, at, got)
			}
		}
	}
	for _, l := range wrongSpans() {
		for _, at := range append(noPlaces(), placesToTry()...) {
			if got := impl.Cut(l, at); len(got) != 0 {
				t.Errorf("Cut of the wrong %v at %d is %v", l, at, got)
			}
		}
	}
}

func TestHasAll(t *testing.T) {
	two := spans(10, 20, 30, 40)
	for _, c := range []struct {
		name string
		list []impl.Span
		span impl.Span
		want bool
	}{
		{"of none", nil, span(0, 1), false},
		{"just the first one", two, span(10, 20), true},
		{"just the last one", two, span(30, 40), true},
		{"inside", two, span(12, 13), true},
		{"one place ahead", two, span(9, 20), false},
		{"one place behind", two, span(10, 21), false},
		{"the place ahead", two, span(9, 10), false},
		{"the place behind", two, span(20, 21), false},
		{"the hole", two, span(20, 30), false},
		{"across the hole", two, span(12, 35), false},
		{"across a hole of one place", spans(1, 3, 4, 6), span(1, 6), false},
		{"behind all", two, span(50, 60), false},
		{"all there can be", spans(0, impl.MaxPlace), span(0, impl.MaxPlace), true},
		{"all but one place", spans(1, impl.MaxPlace), span(0, impl.MaxPlace), false},
		{"the last of MaxSpans", manySpans(impl.MaxSpans, 0), span(4*impl.MaxSpans-4, 4*impl.MaxSpans-2), true},
	} {
		if got := impl.HasAll(c.list, c.span); got != c.want {
			t.Errorf("%s: HasAll is %v", c.name, got)
		}
	}
}

func TestHasAllPlaceByPlace(t *testing.T) {
	const width = 9
	for _, ahead := range []int64{0, 1, impl.MaxPlace - width} {
		for bits := range 1 << width {
			row := rowOfBits(bits, width)
			l := spansOf(row, ahead)
			for from := range width {
				want := true
				for to := from + 1; to <= width; to++ {
					want = want && row[to-1]
					s := span(ahead+int64(from), ahead+int64(to))
					if got := impl.HasAll(l, s); got != want {
						t.Fatalf("is all of %v in %v? %v", s, l, got)
					}
				}
			}
		}
	}
}

func TestHasAllRefuses(t *testing.T) {
	for _, l := range rightSpans() {
		for _, s := range noSpans() {
			if impl.HasAll(l, s) {
				t.Errorf("%v has all of %v, which is no Span", l, s)
			}
		}
	}
	for _, l := range wrongSpans() {
		for _, s := range append(append(noSpans(), l...), span(0, 1), span(1, 3), span(20, 30)) {
			if impl.HasAll(l, s) {
				t.Errorf("the wrong %v has all of %v", l, s)
			}
		}
	}
}

func TestFirstHole(t *testing.T) {
	two := spans(10, 20, 30, 40)
	for _, c := range []struct {
		name     string
		list     []impl.Span
		at, want int64
	}{
		{"of none", nil, 0, 0},
		{"of none, at MaxPlace", nil, impl.MaxPlace, impl.MaxPlace},
		{"ahead of all", two, 9, 9},
		{"at a From", two, 10, 20},
		{"inside", two, 15, 20},
		{"just ahead of a To", two, 19, 20},
		{"at a To", two, 20, 20},
		{"in the hole", two, 29, 29},
		{"at the last From", two, 30, 40},
		{"at the last To", two, 40, 40},
		{"behind all", two, 41, 41},
		{"a hole of one place", spans(1, 3, 4, 6), 2, 3},
		{"behind a hole of one place", spans(1, 3, 4, 6), 4, 6},
		{"of all there can be", spans(0, impl.MaxPlace), 0, impl.MaxPlace},
		{"of all there can be, at the last place", spans(0, impl.MaxPlace), impl.MaxPlace - 1, impl.MaxPlace},
		{"of all there can be, at MaxPlace", spans(0, impl.MaxPlace), impl.MaxPlace, impl.MaxPlace},
		{"in the last of MaxSpans", manySpans(impl.MaxSpans, 0), 4*impl.MaxSpans - 4, 4*impl.MaxSpans - 2},
	} {
		if got := impl.FirstHole(c.list, c.at); got != c.want {
			t.Errorf("%s: FirstHole is %d, want %d", c.name, got, c.want)
		}
	}
}

func TestFirstHoleIsTheLeastPlaceThatIsNotThere(t *testing.T) {
	const width = 9
	for _, ahead := range []int64{0, 1, impl.MaxPlace - width} {
		for bits := range 1 << width {
			row := rowOfBits(bits, width)
			l := spansOf(row, ahead)
			for at := 0; at <= width; at++ {
				want := at
				for want < width && row[want] {
					want++
				}
				if got := impl.FirstHole(l, ahead+int64(at)); got != ahead+int64(want) {
					t.Fatalf("FirstHole of %v from %d on is %d, want %d", l, ahead+int64(at), got, ahead+int64(want))
				}
			}
		}
	}
}

func TestFirstHoleRefuses(t *testing.T) {
	for _, l := range rightSpans() {
		for _, at := range noPlaces() {
			if got := impl.FirstHole(l, at); got != -1 {
				t.Errorf("FirstHole of %v from %d on is %d", l, at, got)
			}
		}
	}
	for _, l := range wrongSpans() {
		for _, at := range append(noPlaces(), placesToTry()...) {
			if got := impl.FirstHole(l, at); got != -1 {
				t.Errorf("FirstHole of the wrong %v from %d on is %d", l, at, got)
			}
		}
	}
}

// scratched fills a list and the spare room behind it.
func scratched(l []impl.Span) {
	all := l[:cap(l)]
	for k := range all {
		all[k] = span(-7, -9)
	}
}

// checkSpansApart asks of one call that it writes nothing into what it is given, nor behind it, and answers new memory.
func checkSpansApart(t *testing.T, what string, given []impl.Span, call func([]impl.Span) []impl.Span) {
	t.Helper()
	spare := span(77, 78)
	all := append(slices.Clone(given), spare, spare, spare)
	before := slices.Clone(all)
	l := all[:len(given)]
	got := call(l)
	if !slices.Equal(all, before) {
		t.Errorf("%s of %v changes what it is given: %v", what, given, all)
	}
	answer := slices.Clone(got)
	scratched(l)
	if !slices.Equal(got, answer) {
		t.Errorf("%s of %v: what is written into what was given is seen in the answer", what, given)
	}
	copy(all, before)
	scratched(got)
	if !slices.Equal(all, before) {
		t.Errorf("%s of %v: what is written into the answer is seen in what was given", what, given)
	}
}

func TestSpansShareNothing(t *testing.T) {
	lists := append(rightSpans(), wrongSpans()...)
	added := append(noSpans(), span(0, 1), span(3, 5), span(6, 7), span(9, 12),
		span(2, 400), span(0, impl.MaxPlace), span(impl.MaxPlace-1, impl.MaxPlace))
	places := append(noPlaces(), placesToTry()...)
	for _, l := range lists {
		for _, s := range added {
			checkSpansApart(t, "Added", l, func(given []impl.Span) []impl.Span {
				got, _ := impl.Added(given, s)
				return got
			})
			checkSpansApart(t, "HasAll", l, func(given []impl.Span) []impl.Span {
				impl.HasAll(given, s)
				return nil
			})
		}
		for _, at := range places {
			checkSpansApart(t, "Cut", l, func(given []impl.Span) []impl.Span {
				return impl.Cut(given, at)
			})
			checkSpansApart(t, "FirstHole", l, func(given []impl.Span) []impl.Span {
				impl.FirstHole(given, at)
				return nil
			})
		}
		checkSpansApart(t, "SpansOk", l, func(given []impl.Span) []impl.Span {
			impl.SpansOk(given)
			return nil
		})
	}
}
