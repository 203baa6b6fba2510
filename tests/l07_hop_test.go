package tests

import (
	"math"
	"slices"
	"strings"
	"testing"

	"loop.example/g00450/impl"
)

const lettersOfOne = 30

func forth(road int64, at int64, bytes string, end bool) impl.Letter {
	return impl.Letter{Road: road, At: at, Bytes: bytes, End: end}
}

func back(road int64, at int64, limit int64, done bool) impl.Letter {
	return impl.Letter{Back: true, Road: road, At: at, Limit: limit, Done: done}
}

func hop(g impl.Giver, x impl.Taker, way ...impl.Letter) impl.Hop {
	return impl.Hop{Giver: g, Taker: x, Way: way}
}

func newHop(t *testing.T, give int64, take int64) impl.Hop {
	t.Helper()
	h, is := impl.NewHop(give, take)
	if !is {
		t.Fatalf("NewHop(%d, %d) says no", give, take)
	}
	return h
}

func sameHop(a, b impl.Hop) bool {
	return a.Giver == b.Giver && sameTaker(a.Taker, b.Taker) && slices.Equal(a.Way, b.Way)
}

func isZeroHop(h impl.Hop) bool {
	return sameHop(h, impl.Hop{})
}

// letterOkByWords asks one thing of the document behind the other.
func letterOkByWords(l impl.Letter) bool {
	is := l.Road >= 0 && l.Road <= 3 && l.At >= 0 && l.At <= 1000000000
	if l.Back {
		return is && l.Limit >= 0 && l.Limit <= 1000000000 && len(l.Bytes) == 0 && !l.End
	}
	is = is && len(l.Bytes) <= 40 && (len(l.Bytes) > 0 || l.End)
	is = is && l.At+int64(len(l.Bytes)) <= 1000000000
	return is && l.Limit == 0 && !l.Done
}

func hopOkByWords(h impl.Hop) bool {
	is := giverOkByWords(h.Giver) && takerOkByWords(h.Taker) && len(h.Way) <= 30
	for _, l := range h.Way {
		is = is && letterOkByWords(l)
	}
	return is
}

// wayAnd puts one more Letter behind a copy of the others.
func wayAnd(way []impl.Letter, l impl.Letter) []impl.Letter {
	return slices.Concat(way, []impl.Letter{l})
}

// wayBut goes letter by letter past the one that is taken out.
func wayBut(way []impl.Letter, k int64) []impl.Letter {
	var list []impl.Letter
	for j, l := range way {
		if int64(j) != k {
			list = append(list, l)
		}
	}
	return list
}

func hasRoom(h impl.Hop, road int64) bool {
	return len(h.Way) < 30 && road >= 0 && road <= 3
}

func sendsByWords(h impl.Hop, road int64, at int64, n int64) (impl.Hop, bool) {
	p, ends, is := offersPlaceByPlace(h.Giver, at, n)
	if !is || !hasRoom(h, road) {
		return h, false
	}
	h.Way = wayAnd(h.Way, forth(road, p.At, p.Bytes, ends))
	return h, true
}

func tellsByWords(h impl.Hop, road int64, done bool) (impl.Hop, bool) {
	if !hasRoom(h, road) {
		return h, false
	}
	limit := limitByWords(h.Taker)
	if limit > 1000000000 {
		limit = 1000000000
	}
	h.Way = wayAnd(h.Way, back(road, h.Taker.Next, limit, done && h.Taker.Ended))
	return h, true
}

func arrivesByWords(h impl.Hop, k int64) (impl.Hop, bool) {
	if k < 0 || k >= int64(len(h.Way)) {
		return h, false
	}
	l := h.Way[k]
	h.Way = wayBut(h.Way, k)
	if l.Back {
		h.Giver, _ = impl.Hears(h.Giver, l.At, l.Limit, l.Done)
	} else {
		h.Taker, _ = takesByPlaces(h.Taker, l.At, l.Bytes, l.End)
	}
	return h, true
}

func losesByWords(h impl.Hop, k int64) (impl.Hop, bool) {
	if k < 0 || k >= int64(len(h.Way)) {
		return h, false
	}
	h.Way = wayBut(h.Way, k)
	return h, true
}

func doublesByWords(h impl.Hop, k int64) (impl.Hop, bool) {
	if k < 0 || k >= int64(len(h.Way)) || len(h.Way) >= 30 {
		return h, false
	}
	h.Way = wayAnd(h.Way, h.Way[k])
	return h, true
}

func rightLetters() []impl.Letter {
	last := int64(impl.MaxPlace)
	return []impl.Letter{
		forth(0, 0, "a", false),
		forth(3, 0, "a", true),
		forth(1, 7, "hijkl", false),
		forth(2, 7, "hijkl", true),
		forth(0, 7, textFrom(7, 40), false),
		forth(3, 8, textFrom(8, 40), true),
		forth(0, 0, "", true),
		forth(2, 12, "", true),
		forth(3, last, "", true),
		forth(0, last-1, "z", false),
		forth(1, last-2, "yz", true),
		forth(3, last-40, textFrom(last-40, 40), true),
		back(0, 0, 0, false),
		back(3, 0, 0, true),
		back(1, 0, last, false),
		back(2, last, 0, false),
		back(0, last, last, true),
		back(3, 7, 12, false),
		back(0, 7, 3, true),
		back(2, 12, 99, true),
	}
}

// wrongLetters are each right but for one field, or for what two of them say of each other.
func wrongLetters() []impl.Letter {
	last := int64(impl.MaxPlace)
	list := []impl.Letter{
		{},
		forth(0, 7, "", false),
		forth(3, last, "", false),
		forth(0, 0, textFrom(0, 41), false),
		forth(0, 0, textFrom(0, 41), true),
		forth(0, last, "z", false),
		forth(0, last-2, "xyz", true),
		forth(0, last-39, textFrom(last-39, 40), false),
		{At: 7, Bytes: "hi", Limit: 1},
		{At: 7, Bytes: "hi", Limit: -1},
		{At: 7, End: true, Limit: last},
		{At: 7, Bytes: "hi", Done: true},
		{At: 7, Bytes: "hi", End: true, Done: true},
		{At: 7, Limit: 12},
		{At: 7, Done: true},
		{Back: true, At: 7, Limit: 12, Bytes: "h"},
		{Back: true, At: 7, Limit: 12, End: true},
		{Back: true, At: 7, Limit: 12, End: true, Done: true},
		{Back: true, At: 7, Limit: 12, Bytes: "h", End: true},
	}
	for _, l := range rightLetters() {
		for _, road := range noRoads() {
			l.Road = road
			list = append(list, l)
		}
	}
	for _, p := range noPlaces() {
		list = append(list, forth(0, p, "hi", false), forth(0, p, "", true), forth(0, p, textFrom(0, 40), true),
			back(0, p, 7, false), back(0, 7, p, true), back(0, p, p, false))
	}
	return list
}

func noRoads() []int64 {
	return []int64{-1, 4, 5, math.MinInt64, math.MaxInt64}
}

// manyLetters are the right ones over and over, so that neighbours differ.
func manyLetters(n int) []impl.Letter {
	var list []impl.Letter
	for len(list) < n {
		list = append(list, rightLetters()...)
	}
	return list[:n:n]
}

// rightHops have each right Giver beside each right Taker, with nothing, a few and as many as may be under way.
func rightHops() []impl.Hop {
	var list []impl.Hop
	for j, g := range rightGivers() {
		for k, x := range rightTakers() {
			list = append(list, hop(g, x, manyLetters([]int{0, 1, 5, 29, 30}[(j+k)%5])...))
		}
	}
	return list
}

func wrongHops() []impl.Hop {
	g, x := giver(7, "hijkl", 9, 12), taker(7, "efg", 9, 12, part(8, "i"), part(10, "kl"))
	list := []impl.Hop{{}, hop(g, x, manyLetters(31)...), hop(g, x, manyLetters(32)...), hop(g, x, manyLetters(99)...)}
	for _, wrong := range wrongGivers() {
		list = append(list, hop(wrong, x, manyLetters(2)...), hop(wrong, x))
	}
	for _, wrong := range wrongTakers() {
		list = append(list, hop(g, wrong, manyLetters(2)...), hop(g, wrong))
	}
	for _, wrong := range wrongLetters() {
		list = append(list, hop(g, x, wrong))
		for _, at := range []int{0, 14, 29} {
			way := manyLetters(30)
			way[at] = wrong
			list = append(list, hop(g, x, way...))
		}
	}
	return list
}

func TestHopOk(t *testing.T) {
	if impl.MaxWay != lettersOfOne {
		t.Errorf("MaxWay is %d", impl.MaxWay)
	}
	for _, h := range rightHops() {
		if !impl.HopOk(h) {
			t.Errorf("HopOk says no to %#v", h)
		}
	}
	for _, h := range wrongHops() {
		if impl.HopOk(h) {
			t.Errorf("HopOk says yes to %#v", h)
		}
	}
}

func TestHopOkOfEachLetter(t *testing.T) {
	h := newHop(t, 9, 9)
	for _, l := range rightLetters() {
		h.Way = []impl.Letter{l}
		if !impl.HopOk(h) {
			t.Errorf("HopOk says no to the Letter %#v", l)
		}
	}
	for _, l := range wrongLetters() {
		h.Way = []impl.Letter{l}
		if impl.HopOk(h) {
			t.Errorf("HopOk says yes to the Letter %#v", l)
		}
	}
}

// everyLetter has each field at each value that can matter, beside all of the others.
func everyLetter(call func(l impl.Letter)) {
	places := append(noPlaces(), 0, 1, 7, impl.MaxPlace-41, impl.MaxPlace-40, impl.MaxPlace-39, impl.MaxPlace-1, impl.MaxPlace)
	for flags := range 8 {
		for _, road := range append(noRoads(), 0, 1, 2, 3) {
			for _, at := range places {
				for _, n := range []int64{0, 1, 39, 40, 41} {
					for _, limit := range []int64{-1, 0, 1, impl.MaxPlace, impl.MaxPlace + 1} {
						call(impl.Letter{Back: flags&1 != 0, Road: road, At: at, Bytes: textFrom(0, n), End: flags&2 != 0, Limit: limit, Done: flags&4 != 0})
					}
				}
			}
		}
	}
}

func TestHopOkOfEveryLetter(t *testing.T) {
	h := newHop(t, 9, 9)
	everyLetter(func(l impl.Letter) {
		h.Way = []impl.Letter{l}
		if got, want := impl.HopOk(h), letterOkByWords(l); got != want {
			t.Fatalf("HopOk with the Letter %#v is %v", l, got)
		}
	})
}

func TestNewHop(t *testing.T) {
	right := []int64{1, 2, 40, 399, 400}
	wrong := []int64{0, -1, 401, 402, 1000000000, math.MinInt64, math.MaxInt64}
	for _, give := range right {
		for _, take := range right {
			h, is := impl.NewHop(give, take)
			if !is || !sameHop(h, hop(giver(0, "", give, 0), taker(0, "", take, -1))) || !impl.HopOk(h) {
				t.Errorf("NewHop(%d, %d) is %#v, %v", give, take, h, is)
			}
		}
	}
	for _, no := range wrong {
		for _, n := range append(right, wrong...) {
			if h, is := impl.NewHop(no, n); is || !isZeroHop(h) {
				t.Errorf("NewHop(%d, %d) is %#v, %v", no, n, h, is)
			}
			if h, is := impl.NewHop(n, no); is || !isZeroHop(h) {
				t.Errorf("NewHop(%d, %d) is %#v, %v", n, no, h, is)
			}
		}
	}
}

func TestSendsOfNamedCases(t *testing.T) {
	last := int64(impl.MaxPlace)
	long := giver(0, textFrom(0, 400), 400, 400)
	open, ended := giver(7, "hijkl", 9, 12), endedGiver(7, "hijkl", 9, 12)
	for _, c := range []struct {
		name        string
		g           impl.Giver
		road, at, n int64
		want        impl.Letter
		is          bool
	}{
		{"all", open, 0, 7, 5, forth(0, 7, "hijkl", false), true},
		{"the last road", open, 3, 7, 5, forth(3, 7, "hijkl", false), true},
		{"one past the last road", open, 4, 7, 5, impl.Letter{}, false},
		{"one below the first road", open, -1, 7, 5, impl.Letter{}, false},
		{"some", open, 1, 8, 2, forth(1, 8, "ij", false), true},
		{"n 0", open, 0, 7, 0, impl.Letter{}, false},
		{"n -1", open, 0, 7, -1, impl.Letter{}, false},
		{"n MaxBytes", long, 2, 3, 40, forth(2, 3, textFrom(3, 40), false), true},
		{"n MaxBytes and one more", long, 2, 3, 41, impl.Letter{}, false},
		{"at one below Base", open, 0, 6, 5, impl.Letter{}, false},
		{"at just behind all", open, 0, 12, 5, impl.Letter{}, false},
		{"at one past", open, 0, 13, 5, impl.Letter{}, false},
		{"up to the Limit", giver(7, "hijkl", 9, 10), 0, 7, 40, forth(0, 7, "hij", false), true},
		{"at the Limit", giver(7, "hijkl", 9, 10), 0, 10, 40, impl.Letter{}, false},
		{"with the end", ended, 2, 9, 40, forth(2, 9, "jkl", true), true},
		{"one short of the end", ended, 2, 9, 2, forth(2, 9, "jk", false), true},
		{"the end alone", ended, 2, 12, 40, forth(2, 12, "", true), true},
		{"the end alone, n 0", ended, 2, 12, 0, forth(2, 12, "", true), true},
		{"the end alone, no such road", ended, 4, 12, 0, impl.Letter{}, false},
		{"the end of nothing", endedGiver(0, "", 1, 0), 0, 0, 0, forth(0, 0, "", true), true},
		{"the end again, where it is Done", doneGiver(7, 9, 7), 1, 7, 40, forth(1, 7, "", true), true},
		{"the last places", endedGiver(last-2, "yz", 9, last), 3, last - 2, 40, forth(3, last-2, "yz", true), true},
		{"the end at MaxPlace", endedGiver(last-2, "yz", 9, last), 3, last, 40, forth(3, last, "", true), true},
		{"behind MaxPlace", endedGiver(last-2, "yz", 9, last), 3, last + 1, 40, impl.Letter{}, false},
	} {
		h := hop(c.g, taker(7, "efg", 9, 12), manyLetters(2)...)
		want := h
		if c.is {
			want.Way = wayAnd(h.Way, c.want)
		}
		if got, is := impl.Sends(h, c.road, c.at, c.n); is != c.is || !sameHop(got, want) {
			t.Errorf("%s: Sends is %#v, %v", c.name, got, is)
		}
	}
}

func TestSendsByWords(t *testing.T) {
	for _, h := range rightHops() {
		places := append(noPlaces(), 0, h.Giver.Base-1, h.Giver.Base, h.Giver.Base+1, behindKept(h.Giver)-1, behindKept(h.Giver), behindKept(h.Giver)+1)
		for _, road := range append(noRoads(), 0, 3) {
			for _, at := range places {
				for _, n := range []int64{math.MinInt64, -1, 0, 1, 39, 40, 41, math.MaxInt64} {
					got, is := impl.Sends(h, road, at, n)
					want, should := sendsByWords(h, road, at, n)
					if is != should || !sameHop(got, want) || !hopOkByWords(got) {
						t.Fatalf("Sends of %#v, %d, %d, %d is %#v, %v", h, road, at, n, got, is)
					}
				}
			}
		}
	}
}

func TestTellsOfNamedCases(t *testing.T) {
	last := int64(impl.MaxPlace)
	for _, c := range []struct {
		name string
		x    impl.Taker
		road int64
		done bool
		want impl.Letter
		is   bool
	}{
		{"a new one", taker(0, "", 6, -1), 0, false, back(0, 0, 6, false), true},
		{"the last road", taker(0, "", 6, -1), 3, false, back(3, 0, 6, false), true},
		{"one past the last road", taker(0, "", 6, -1), 4, false, impl.Letter{}, false},
		{"one below the first road", taker(0, "", 6, -1), -1, false, impl.Letter{}, false},
		{"Bytes make it less", taker(9, "fghi", 6, -1), 1, false, back(1, 9, 11, false), true},
		{"no room", taker(9, "defghi", 6, -1), 1, false, back(1, 9, 9, false), true},
		{"Parts do not count", taker(7, "efg", 9, 12, part(8, "i"), part(10, "kl")), 2, true, back(2, 7, 13, false), true},
		{"done, where it is Ended", taker(9, "fghi", 6, 9), 2, true, back(2, 9, 11, true), true},
		{"not done, where it is Ended", taker(9, "fghi", 6, 9), 2, false, back(2, 9, 11, false), true},
		{"done, where it is not Ended", taker(9, "fghi", 6, -1), 2, true, back(2, 9, 11, false), true},
		{"done, where the End is one ahead", taker(9, "fghi", 6, 10), 2, true, back(2, 9, 11, false), true},
		{"done, where all of nothing came", taker(0, "", 6, 0), 0, true, back(0, 0, 6, true), true},
		{"done, where there is no such road", taker(0, "", 6, 0), 4, true, impl.Letter{}, false},
		{"a limit just at MaxPlace", taker(last-6, "", 6, -1), 0, false, back(0, last-6, last, false), true},
		{"a limit one past MaxPlace", taker(last-5, "", 6, -1), 0, false, back(0, last-5, last, false), true},
		{"a limit far past MaxPlace", taker(last, "", 400, last), 3, true, back(3, last, last, true), true},
		{"a limit at MaxPlace, with no room", taker(last, "a", 1, -1), 0, false, back(0, last, last, false), true},
		{"Bytes bring it below MaxPlace", taker(last-1, "xy", 2, -1), 0, false, back(0, last-1, last-1, false), true},
	} {
		h := hop(giver(7, "hijkl", 9, 12), c.x, manyLetters(2)...)
		want := h
		if c.is {
			want.Way = wayAnd(h.Way, c.want)
		}
		if got, is := impl.Tells(h, c.road, c.done); is != c.is || !sameHop(got, want) {
			t.Errorf("%s: Tells is %#v, %v", c.name, got, is)
		}
	}
}

func TestTellsByWords(t *testing.T) {
	for _, h := range rightHops() {
		for _, road := range append(noRoads(), 0, 1, 2, 3) {
			for _, done := range []bool{false, true} {
				got, is := impl.Tells(h, road, done)
				want, should := tellsByWords(h, road, done)
				if is != should || !sameHop(got, want) || !hopOkByWords(got) {
					t.Fatalf("Tells of %#v, %d, %v is %#v, %v", h, road, done, got, is)
				}
			}
		}
	}
}

func TestArrivesOfNamedCases(t *testing.T) {
	g, ended := giver(7, "hijkl", 9, 9), endedGiver(7, "hijkl", 9, 9)
	x := taker(7, "efg", 9, -1, part(9, "J"))
	for _, c := range []struct {
		name  string
		g     impl.Giver
		l     impl.Letter
		wantG impl.Giver
		wantX impl.Taker
	}{
		{"what is next", g, forth(0, 7, "h", false), g, taker(8, "efgh", 9, -1, part(9, "J"))},
		{"it closes a hole", g, forth(2, 6, "ghij", false), g, taker(10, "efghiJ", 9, -1)},
		{"all, and the end", g, forth(0, 7, "hijkl", true), g, taker(12, "efghiJkl", 9, 12)},
		{"the end alone", g, forth(0, 12, "", true), g, taker(7, "efg", 9, 12, part(9, "J"))},
		{"it was there", g, forth(0, 4, "efg", false), g, x},
		{"no room for it", g, forth(0, 13, "n", false), g, x},
		{"an end that can't be", g, forth(0, 7, "h", true), g, x},
		{"nothing new is told", g, back(0, 7, 9, false), g, x},
		{"some came", g, back(1, 10, 9, false), giver(10, "kl", 9, 10), x},
		{"it may send more", g, back(0, 7, 11, false), giver(7, "hijkl", 9, 11), x},
		{"both", g, back(3, 9, 14, false), giver(9, "jkl", 9, 14), x},
		{"all came", g, back(0, 12, 14, true), giver(12, "", 9, 14), x},
		{"all came, and the end", ended, back(0, 12, 14, true), doneGiver(12, 9, 14), x},
		{"all came, the end not told", ended, back(0, 12, 14, false), endedGiver(12, "", 9, 14), x},
		{"told long ago", g, back(0, 6, 14, true), g, x},
		{"told of what was not sent", g, back(0, 13, 14, true), g, x},
	} {
		h := hop(c.g, x, forth(1, 0, "a", false), c.l, back(1, 0, 0, false))
		want := hop(c.wantG, c.wantX, forth(1, 0, "a", false), back(1, 0, 0, false))
		if got, is := impl.Arrives(h, 1); !is || !sameHop(got, want) {
			t.Errorf("%s: Arrives is %#v, %v", c.name, got, is)
		}
	}
}

// checkK holds the three calls that are told of a Letter by its number against the words, for each number that can matter.
func checkK(t *testing.T, h impl.Hop) {
	t.Helper()
	size := int64(len(h.Way))
	for _, k := range []int64{math.MinInt64, -1, 0, 1, size / 2, size - 2, size - 1, size, size + 1, 30, 31, math.MaxInt64} {
		for _, c := range []struct {
			name  string
			call  func(impl.Hop, int64) (impl.Hop, bool)
			words func(impl.Hop, int64) (impl.Hop, bool)
		}{
			{"Arrives", impl.Arrives, arrivesByWords},
			{"Loses", impl.Loses, losesByWords},
			{"Doubles", impl.Doubles, doublesByWords},
		} {
			got, is := c.call(h, k)
			want, should := c.words(h, k)
			if is != should || !sameHop(got, want) || !hopOkByWords(got) {
				t.Fatalf("%s of %#v, %d is %#v, %v", c.name, h, k, got, is)
			}
		}
	}
}

func TestLettersByTheirNumbers(t *testing.T) {
	for _, h := range rightHops() {
		checkK(t, h)
	}
	for n := range 31 {
		checkK(t, hop(giver(7, "hijkl", 9, 9), taker(7, "efg", 9, -1, part(9, "J")), manyLetters(n)...))
	}
}

func TestEachLetterArrivesAtEachHop(t *testing.T) {
	for _, g := range rightGivers() {
		for _, x := range rightTakers() {
			for _, l := range rightLetters() {
				h := hop(g, x, l)
				got, is := impl.Arrives(h, 0)
				want, _ := arrivesByWords(h, 0)
				if !is || !sameHop(got, want) || len(got.Way) != 0 || !hopOkByWords(got) {
					t.Fatalf("Arrives of %#v is %#v, %v", h, got, is)
				}
			}
		}
	}
}

func TestFirstAndLastLetter(t *testing.T) {
	a, b, c := forth(0, 7, "h", false), back(1, 8, 12, false), forth(2, 8, "i", false)
	g, x := giver(7, "hijkl", 9, 9), taker(7, "efg", 9, -1)
	h := hop(g, x, a, b, c)
	for _, k := range []int64{-1, 3} {
		for _, call := range []func(impl.Hop, int64) (impl.Hop, bool){impl.Arrives, impl.Loses, impl.Doubles} {
			if got, is := call(h, k); is || !sameHop(got, h) {
				t.Errorf("of Letter %d it is %#v, %v", k, got, is)
			}
		}
	}
	if got, is := impl.Arrives(h, 0); !is || !sameHop(got, hop(g, taker(8, "efgh", 9, -1), b, c)) {
		t.Errorf("Arrives of the first one is %#v, %v", got, is)
	}
	if got, is := impl.Arrives(h, 2); !is || !sameHop(got, hop(g, taker(7, "efg", 9, -1, part(8, "i")), a, b)) {
		t.Errorf("Arrives of the last one is %#v, %v", got, is)
	}
	if got, is := impl.Loses(h, 0); !is || !sameHop(got, hop(g, x, b, c)) {
		t.Errorf("Loses of the first one is %#v, %v", got, is)
	}
	if got, is := impl.Loses(h, 2); !is || !sameHop(got, hop(g, x, a, b)) {
		t.Errorf("Loses of the last one is %#v, %v", got, is)
	}
	if got, is := impl.Doubles(h, 0); !is || !sameHop(got, hop(g, x, a, b, c, a)) {
		t.Errorf("Doubles of the first one is %#v, %v", got, is)
	}
	if got, is := impl.Doubles(h, 2); !is || !sameHop(got, hop(g, x, a, b, c, c)) {
		t.Errorf("Doubles of the last one is %#v, %v", got, is)
	}
}

// The last Letter for which there is room is taken, the next one is refused, and what is taken out makes room again.
func TestRoomForLetters(t *testing.T) {
	g, x := giver(7, "hijkl", 9, 12), taker(7, "efg", 9, 7)
	for _, c := range []struct {
		name string
		call func(h impl.Hop) (impl.Hop, bool)
		want impl.Letter
	}{
		{"Sends", func(h impl.Hop) (impl.Hop, bool) { return impl.Sends(h, 1, 8, 3) }, forth(1, 8, "ijk", false)},
		{"Tells", func(h impl.Hop) (impl.Hop, bool) { return impl.Tells(h, 1, true) }, back(1, 7, 13, true)},
		{"Doubles", func(h impl.Hop) (impl.Hop, bool) { return impl.Doubles(h, 4) }, manyLetters(5)[4]},
	} {
		for n := range 30 {
			h := hop(g, x, manyLetters(n)...)
			if n <= 4 && c.name == "Doubles" {
				continue
			}
			got, is := c.call(h)
			if !is || len(got.Way) != n+1 || !sameHop(got, hop(g, x, wayAnd(h.Way, c.want)...)) || !impl.HopOk(got) {
				t.Errorf("%s beside %d Letters is %#v, %v", c.name, n, got, is)
			}
		}
		full := hop(g, x, manyLetters(30)...)
		if got, is := c.call(full); is || !sameHop(got, full) {
			t.Errorf("%s beside MaxWay Letters is %#v, %v", c.name, got, is)
		}
		less, _ := impl.Loses(full, 29)
		if got, is := c.call(less); !is || len(got.Way) != 30 || got.Way[29] != c.want {
			t.Errorf("%s where one was lost is %#v, %v", c.name, got, is)
		}
	}
}

func TestWrongHopsAreRefused(t *testing.T) {
	for _, h := range wrongHops() {
		check := func(name string, got impl.Hop, is bool) {
			if is || !isZeroHop(got) {
				t.Fatalf("%s of %#v is %#v, %v", name, h, got, is)
			}
		}
		for _, road := range []int64{-1, 0, 3, 4} {
			for _, n := range []int64{-1, 0, 5, 40, 41} {
				for _, at := range []int64{-1, 0, h.Giver.Base, 7, 8, 12, math.MinInt64, math.MaxInt64} {
					got, is := impl.Sends(h, road, at, n)
					check("Sends", got, is)
				}
			}
			for _, done := range []bool{false, true} {
				got, is := impl.Tells(h, road, done)
				check("Tells", got, is)
			}
		}
		for _, k := range []int64{-1, 0, 1, 2, 29, 30, 31, math.MinInt64, math.MaxInt64} {
			got, is := impl.Arrives(h, k)
			check("Arrives", got, is)
			got, is = impl.Loses(h, k)
			check("Loses", got, is)
			got, is = impl.Doubles(h, k)
			check("Doubles", got, is)
		}
	}
}

// A carrier has a hop between a text and what was read of it, and beside it what should be under way, told by itself.
type carrier struct {
	h       impl.Hop
	text    string
	written int64
	read    string
	way     []impl.Letter
}

func (c *carrier) size() int64 {
	return int64(len(c.h.Way))
}

func (c *carrier) writes(n int64) {
	to := min(int64(len(c.text)), c.written+n)
	g, count := impl.Writes(c.h.Giver, c.text[c.written:to])
	c.h.Giver, c.written = g, c.written+count
	if c.written == int64(len(c.text)) {
		c.h.Giver, _ = impl.Ends(c.h.Giver)
	}
}

func (c *carrier) reads(n int64) {
	x, bytes := impl.TakenAway(c.h.Taker, n)
	c.h.Taker, c.read = x, c.read+bytes
}

func (c *carrier) sends(road int64, at int64, n int64) {
	p, ends, offered := impl.Offers(c.h.Giver, at, n)
	h, is := impl.Sends(c.h, road, at, n)
	if offered && is {
		c.way = append(c.way, forth(road, p.At, p.Bytes, ends))
	}
	c.h = h
}

func (c *carrier) tells(road int64, done bool) {
	h, is := impl.Tells(c.h, road, done)
	if is {
		c.way = append(c.way, back(road, c.h.Taker.Next, impl.LimitOf(c.h.Taker), done && c.h.Taker.Ended))
	}
	c.h = h
}

func (c *carrier) comes(k int64) {
	h, is := impl.Arrives(c.h, k)
	if is {
		c.way = wayBut(c.way, k)
	}
	c.h = h
}

func (c *carrier) loses(k int64) {
	h, is := impl.Loses(c.h, k)
	if is {
		c.way = wayBut(c.way, k)
	}
	c.h = h
}

func (c *carrier) doubles(k int64) {
	h, is := impl.Doubles(c.h, k)
	if is {
		c.way = append(c.way, c.way[k])
	}
	c.h = h
}

// does takes the next step, of those that may be asked as well as of those one past them.
func (c *carrier) does(seed *steps) {
	road, k := seed.below(6)-1, seed.below(c.size()+2)-1
	switch seed.below(10) {
	case 0:
		c.writes(seed.below(60))
	case 1:
		c.reads(seed.below(int64(len(c.h.Taker.Bytes)) + 2))
	case 2, 3:
		c.sends(road, c.h.Giver.Base-1+seed.below(int64(len(c.h.Giver.Bytes))+3), seed.below(43)-1)
	case 4, 5:
		c.tells(road, seed.below(2) == 0)
	case 6, 7:
		c.comes(k)
	case 8:
		c.loses(k)
	case 9:
		c.doubles(k)
	}
}

// stands asks for what holds behind each step: the hop is right, its Letters are in their order, and nothing is told or taken that was not written.
func (c *carrier) stands(t *testing.T) {
	t.Helper()
	g, x := c.h.Giver, c.h.Taker
	if !impl.HopOk(c.h) || !hopOkByWords(c.h) {
		t.Fatalf("it is no longer right: %#v", c.h)
	}
	if !slices.Equal(c.h.Way, c.way) {
		t.Fatalf("under way is %#v, not %#v", c.h.Way, c.way)
	}
	if g.Bytes != c.text[g.Base:c.written] || c.read+x.Bytes != c.text[:x.Next] || x.Next < g.Base || x.Next > c.written {
		t.Fatalf("of %d bytes it is %#v", c.written, c.h)
	}
	if g.Limit > impl.LimitOf(x) || g.Done && (!x.Ended || x.Next != int64(len(c.text))) {
		t.Fatalf("it was told too much: %#v", c.h)
	}
}

func TestLettersWhateverHappensToThem(t *testing.T) {
	for _, c := range []struct{ give, take, length int64 }{{1, 1, 20}, {1, 400, 30}, {5, 3, 90}, {3, 9, 90}, {50, 400, 400}, {400, 60, 500}, {400, 400, 700}, {400, 400, 0}} {
		for seed := range steps(5) {
			all := &carrier{h: newHop(t, c.give, c.take), text: textFrom(0, c.length)}
			for step := 0; !all.h.Giver.Done; step++ {
				if step > 200000 {
					t.Fatalf("it is never done: %#v", all.h)
				}
				all.does(&seed)
				all.stands(t)
			}
			if all.read+all.h.Taker.Bytes != all.text || !all.h.Taker.Ended || all.h.Giver.Base != c.length {
				t.Fatalf("of %d bytes came %#v", c.length, all.h)
			}
			for all.size() > 0 {
				before := all.h
				all.comes(seed.below(all.size()))
				if !sameTaker(all.h.Taker, before.Taker) || all.h.Giver.Base != c.length || !all.h.Giver.Done {
					t.Fatalf("a late Letter changes %#v to %#v", before, all.h)
				}
				all.stands(t)
			}
		}
	}
}

// rightLetterNear is one that nobody sent: near to where Giver and Taker are, so that it is seldom passed over.
func rightLetterNear(h impl.Hop, seed *steps) impl.Letter {
	for {
		near := []int64{h.Giver.Base, behindKept(h.Giver), h.Taker.Next, limitByWords(h.Taker), h.Giver.Limit, impl.MaxPlace}
		at := near[seed.below(6)] - 12 + seed.below(24)
		l := forth(seed.below(4), at, textFrom(seed.below(200), seed.below(41)), seed.below(8) == 0)
		if seed.below(2) == 0 {
			l = back(seed.below(4), at, near[seed.below(6)]-2+seed.below(5), seed.below(2) == 0)
		}
		if letterOkByWords(l) {
			return l
		}
	}
}

func TestHopStaysRightWhateverComes(t *testing.T) {
	for j, start := range rightHops() {
		seed, h := steps(j), start
		for range 60 {
			k := seed.below(int64(len(h.Way))+2) - 1
			before := h
			switch seed.below(7) {
			case 0:
				h, _ = impl.Sends(h, seed.below(6)-1, h.Giver.Base+seed.below(50), seed.below(42))
			case 1:
				h, _ = impl.Tells(h, seed.below(6)-1, seed.below(2) == 0)
			case 2, 3:
				h, _ = impl.Arrives(h, k)
			case 4:
				h, _ = impl.Loses(h, k)
			case 5:
				h, _ = impl.Doubles(h, k)
			case 6:
				if len(h.Way) < lettersOfOne {
					h.Way = wayAnd(h.Way, rightLetterNear(h, &seed))
				}
			}
			if !impl.HopOk(h) || !hopOkByWords(h) {
				t.Fatalf("%#v is no longer right: %#v", before, h)
			}
			if h.Giver.Base < before.Giver.Base || h.Giver.Limit < before.Giver.Limit || h.Taker.Next < before.Taker.Next || !strings.HasPrefix(h.Taker.Bytes, before.Taker.Bytes) {
				t.Fatalf("%#v goes back: %#v", before, h)
			}
		}
	}
}

// The same Letters in each order they can come in: at last it is the same.
func TestFourLettersInEachOrder(t *testing.T) {
	h := hop(endedGiver(0, "abcdef", 9, 6), taker(0, "", 9, -1),
		forth(0, 0, "abc", false), forth(1, 2, "cde", false), forth(2, 4, "ef", true), forth(3, 6, "", true))
	want := taker(6, "abcdef", 9, 6)
	for order := range int64(24) {
		got := h
		for left := int64(4); left > 0; left-- {
			var is bool
			got, is = impl.Arrives(got, order%left)
			if !is || !impl.HopOk(got) || int64(len(got.Way)) != left-1 {
				t.Fatalf("in the order %d it is %#v, %v", order, got, is)
			}
			order /= left
		}
		if !sameTaker(got.Taker, want) || got.Giver != h.Giver {
			t.Errorf("at last it is %#v", got)
		}
	}
}

func TestAHopFromItsBeginningToItsEnd(t *testing.T) {
	h := newHop(t, 10, 4)
	h.Giver, _ = impl.Writes(h.Giver, "hello")
	h.Giver, _ = impl.Ends(h.Giver)
	if got, is := impl.Sends(h, 0, 0, 9); is || !sameHop(got, h) {
		t.Errorf("nothing may be sent yet, but it is %#v, %v", got, is)
	}
	h, _ = impl.Tells(h, 0, true)
	h, _ = impl.Arrives(h, 0)
	h, _ = impl.Sends(h, 2, 0, 9)
	h, _ = impl.Doubles(h, 0)
	h, _ = impl.Loses(h, 0)
	h, _ = impl.Sends(h, 1, 2, 1)
	h, _ = impl.Arrives(h, 1)
	if !sameHop(h, hop(endedGiver(0, "hello", 10, 4), taker(0, "", 4, -1, part(2, "l")), forth(2, 0, "hell", false))) {
		t.Errorf("half way it is %#v", h)
	}
	h, _ = impl.Arrives(h, 0)
	h.Taker, _ = impl.TakenAway(h.Taker, 4)
	h, _ = impl.Tells(h, 3, true)
	h, _ = impl.Arrives(h, 0)
	h, _ = impl.Sends(h, 0, 4, 40)
	h, _ = impl.Arrives(h, 0)
	h, _ = impl.Tells(h, 1, false)
	h, _ = impl.Tells(h, 2, true)
	if !sameHop(h, hop(endedGiver(4, "o", 10, 8), taker(5, "o", 4, 5), back(1, 5, 8, false), back(2, 5, 8, true))) {
		t.Errorf("near the end it is %#v", h)
	}
	h, _ = impl.Arrives(h, 1)
	h, _ = impl.Arrives(h, 0)
	if !sameHop(h, hop(doneGiver(5, 10, 8), taker(5, "o", 4, 5))) {
		t.Errorf("at last it is %#v", h)
	}
}

// sparePlaces is a list of as many as are given, with others in the spare room behind them.
func sparePlaces[T any](given []T, spare T) []T {
	room := slices.Clone(given)
	for range 9 {
		room = append(room, spare)
	}
	return room[:len(given)]
}

func scratchAll[T any](list []T, with T) {
	for k := range list[:cap(list)] {
		list[:cap(list)][k] = with
	}
}

// checkOwnHop writes over what was given and what was answered, spare room and all: the other one stays.
func checkOwnHop(t *testing.T, name string, letters int, call func(h impl.Hop) (impl.Hop, bool), should bool) {
	t.Helper()
	parts := sparePlaces([]impl.Part{part(8, "I"), part(10, "KL")}, part(500, "spare"))
	way := sparePlaces(manyLetters(letters), forth(9, 500, "spare", true))
	wasParts, wasWay := slices.Clone(parts[:cap(parts)]), slices.Clone(way[:cap(way)])
	stays := func() bool {
		return slices.Equal(parts[:cap(parts)], wasParts) && slices.Equal(way[:cap(way)], wasWay)
	}
	got, is := call(hop(endedGiver(7, "hijkl", 9, 12), taker(7, "efg", 9, -1, parts...), way...))
	if is != should || !stays() {
		t.Errorf("%s beside %d Letters: %v, and what was given is now %v, %v", name, letters, is, parts, way)
	}
	wantParts, wantWay := slices.Clone(got.Taker.Parts), slices.Clone(got.Way)
	scratchAll(parts, part(99, "scratched"))
	scratchAll(way, forth(8, 99, "scratched", true))
	if !slices.Equal(got.Taker.Parts, wantParts) || !slices.Equal(got.Way, wantWay) {
		t.Errorf("%s beside %d Letters: the answer is now %#v", name, letters, got)
	}
	copy(parts[:cap(parts)], wasParts)
	copy(way[:cap(way)], wasWay)
	scratchAll(got.Taker.Parts, part(77, "scratched"))
	scratchAll(got.Way, forth(7, 77, "scratched", true))
	if !stays() {
		t.Errorf("%s beside %d Letters: what was given is now %v, %v", name, letters, parts, way)
	}
}

func TestHopsShareNothing(t *testing.T) {
	sends := func(road, at, n int64) func(h impl.Hop) (impl.Hop, bool) {
		return func(h impl.Hop) (impl.Hop, bool) { return impl.Sends(h, road, at, n) }
	}
	tells := func(road int64, done bool) func(h impl.Hop) (impl.Hop, bool) {
		return func(h impl.Hop) (impl.Hop, bool) { return impl.Tells(h, road, done) }
	}
	of := func(call func(impl.Hop, int64) (impl.Hop, bool), k int64) func(h impl.Hop) (impl.Hop, bool) {
		return func(h impl.Hop) (impl.Hop, bool) { return call(h, k) }
	}
	for _, letters := range []int{0, 1, 5, 20, 29, 30, 31} {
		right, room, size := letters <= 30, letters < 30, int64(letters)
		checkOwnHop(t, "Sends", letters, sends(1, 8, 3), room)
		checkOwnHop(t, "Sends on no road", letters, sends(4, 8, 3), false)
		checkOwnHop(t, "Sends nothing", letters, sends(1, 6, 3), false)
		checkOwnHop(t, "Tells", letters, tells(1, true), room)
		checkOwnHop(t, "Tells on no road", letters, tells(-1, true), false)
		checkOwnHop(t, "HopOk", letters, func(h impl.Hop) (impl.Hop, bool) { return impl.Hop{}, impl.HopOk(h) }, right)
		for k := int64(-1); k <= size; k++ {
			there := right && k >= 0 && k < size
			checkOwnHop(t, "Arrives", letters, of(impl.Arrives, k), there)
			checkOwnHop(t, "Loses", letters, of(impl.Loses, k), there)
			checkOwnHop(t, "Doubles", letters, of(impl.Doubles, k), there && room)
		}
	}
}
