package tests

import (
	"math"
	"strings"
	"testing"

	"loop.example/g00450/impl"
)

func newGiver(t *testing.T, limit int64) impl.Giver {
	t.Helper()
	g, is := impl.NewGiver(limit)
	if !is {
		t.Fatalf("NewGiver(%d) says no", limit)
	}
	return g
}

// giver is not at its End.
func giver(base int64, bytes string, limit int64, upTo int64) impl.Giver {
	return impl.Giver{Base: base, Bytes: bytes, Cap: limit, Limit: upTo}
}

func endedGiver(base int64, bytes string, limit int64, upTo int64) impl.Giver {
	g := giver(base, bytes, limit, upTo)
	g.End = true
	return g
}

func doneGiver(base int64, limit int64, upTo int64) impl.Giver {
	g := endedGiver(base, "", limit, upTo)
	g.Done = true
	return g
}

func behindKept(g impl.Giver) int64 {
	return g.Base + int64(len(g.Bytes))
}

// giverOkByWords asks one thing of the document behind the other, of a Giver whose numbers are small or near to MaxPlace.
func giverOkByWords(g impl.Giver) bool {
	is := g.Cap >= 1 && g.Cap <= 400
	is = is && g.Base >= 0 && g.Base <= 1000000000
	is = is && int64(len(g.Bytes)) <= g.Cap && behindKept(g) <= 1000000000
	is = is && g.Limit >= 0 && g.Limit <= 1000000000 && g.Limit >= g.Base
	if g.Done {
		is = is && g.End && len(g.Bytes) == 0
	}
	return is
}

// writesOneByOne puts byte behind byte till one has no room.
func writesOneByOne(g impl.Giver, bytes string) (impl.Giver, int64) {
	n := int64(0)
	for k := range len(bytes) {
		if g.End || int64(len(g.Bytes)) == g.Cap || behindKept(g) == 1000000000 {
			break
		}
		g.Bytes += bytes[k : k+1]
		n++
	}
	return g, n
}

// offersPlaceByPlace asks of each place by itself whether its byte is offered.
func offersPlaceByPlace(g impl.Giver, at int64, n int64) (impl.Part, bool, bool) {
	if at < g.Base || at > behindKept(g) || n < 0 || n > 40 {
		return impl.Part{}, false, false
	}
	bytes, last := "", false
	for k := range len(g.Bytes) {
		place := g.Base + int64(k)
		if place >= at && place < g.Limit && int64(len(bytes)) < n {
			bytes += g.Bytes[k : k+1]
			last = k == len(g.Bytes)-1
		}
	}
	ends := g.End && (last || bytes == "" && at == behindKept(g))
	if bytes == "" && !ends {
		return impl.Part{}, false, false
	}
	return part(at, bytes), ends, true
}

// hearsOneByOne lets byte after byte go, and puts the Limit one further till it is no less than what was told.
func hearsOneByOne(g impl.Giver, base int64, limit int64, done bool) (impl.Giver, bool) {
	if base < g.Base || base > behindKept(g) {
		return g, false
	}
	changed := false
	for g.Base < base {
		g.Base, g.Bytes, changed = g.Base+1, g.Bytes[1:], true
	}
	for g.Limit < g.Base || limit <= 1000000000 && g.Limit < limit {
		g.Limit, changed = g.Limit+1, true
	}
	if done && g.End && len(g.Bytes) == 0 && !g.Done {
		g.Done, changed = true, true
	}
	return g, changed
}

// smallGivers are right and wrong: each way in which few places can be filled, with each Limit that can matter.
func smallGivers(base int64, limit int64) []impl.Giver {
	var list []impl.Giver
	for bytes := range limit + 2 {
		for upTo := base - 1; upTo <= base+limit+2; upTo++ {
			for flags := range 4 {
				g := giver(base, textFrom(base, bytes), limit, upTo)
				g.End, g.Done = flags&1 != 0, flags&2 != 0
				list = append(list, g)
			}
		}
	}
	return list
}

// basesToTry are where bytes are near to a round of the few seats, and where places come to their end.
func basesToTry() []int64 {
	return []int64{0, 1, 2, 3, 11, 250, lastPair, impl.MaxPlace - 4, impl.MaxPlace - 2, impl.MaxPlace - 1, impl.MaxPlace}
}

func eachSmallGiver(call func(g impl.Giver)) {
	for _, base := range basesToTry() {
		for limit := int64(1); limit <= 4; limit++ {
			for _, g := range smallGivers(base, limit) {
				if giverOkByWords(g) {
					call(g)
				}
			}
		}
	}
}

func rightGivers() []impl.Giver {
	last := int64(impl.MaxPlace)
	return []impl.Giver{
		giver(0, "", 1, 0),
		giver(0, "a", 1, 0),
		giver(0, "", 400, last),
		giver(0, textFrom(0, 400), 400, 0),
		giver(0, textFrom(0, 400), 400, 399),
		giver(7, textFrom(7, 400), 400, 407),
		giver(7, "hijkl", 9, 7),
		giver(7, "hijkl", 9, 10),
		giver(7, "hijkl", 9, 12),
		giver(7, "hijkl", 5, 99),
		endedGiver(0, "", 1, 0),
		endedGiver(7, "hijkl", 9, 7),
		endedGiver(7, "hijkl", 9, 10),
		endedGiver(7, "hijkl", 5, 12),
		endedGiver(7, "", 9, 7),
		doneGiver(0, 1, 0),
		doneGiver(7, 9, 7),
		doneGiver(7, 400, last),
		giver(last, "", 1, last),
		giver(last-1, "z", 400, last-1),
		giver(last-400, textFrom(last-400, 400), 400, last),
		endedGiver(last-2, "yz", 2, last),
		doneGiver(last, 400, last),
	}
}

// wrongGivers are wrong in one field each, or in what two of them say of each other.
func wrongGivers() []impl.Giver {
	last := int64(impl.MaxPlace)
	list := []impl.Giver{
		{},
		giver(0, "ab", 1, 0),
		giver(0, "", 0, 0),
		giver(0, strings.Repeat("a", 401), 400, 0),
		giver(0, strings.Repeat("a", 401), 401, 0),
		giver(7, "", 9, 6),
		giver(7, "hijkl", 9, 6),
		giver(7, "hijkl", 9, 0),
		giver(7, "hijkl", 4, 12),
		giver(last, "a", 9, last),
		giver(last-2, "xyz", 9, last),
		giver(last-399, strings.Repeat("a", 400), 400, last),
		{Base: 7, Cap: 9, Limit: 7, Done: true},
		{Base: 7, Bytes: "h", Cap: 9, Limit: 7, Done: true},
		{Base: 7, Bytes: "h", Cap: 9, Limit: 7, End: true, Done: true},
	}
	for _, n := range []int64{0, -1, 401, 402, last, math.MinInt64, math.MaxInt64} {
		list = append(list, giver(0, "", n, 0), giver(7, "hi", n, 9), endedGiver(7, "hi", n, 9), doneGiver(7, n, 9))
	}
	for _, p := range noPlaces() {
		list = append(list, giver(p, "", 9, 9), giver(p, "hi", 400, p), giver(p, "", 9, last), endedGiver(p, "hi", 9, 9), doneGiver(p, 9, last),
			giver(0, "", 9, p), giver(7, "hi", 400, p), endedGiver(7, "hi", 9, p), doneGiver(7, 9, p))
	}
	return list
}

func TestGiverOk(t *testing.T) {
	for _, g := range rightGivers() {
		if !impl.GiverOk(g) {
			t.Errorf("GiverOk says no to %#v", g)
		}
	}
	for _, g := range wrongGivers() {
		if impl.GiverOk(g) {
			t.Errorf("GiverOk says yes to %#v", g)
		}
	}
}

func TestGiverOkOfEverySmallOne(t *testing.T) {
	for _, base := range append(basesToTry(), -1, impl.MaxPlace+1) {
		for limit := range int64(5) {
			for _, g := range smallGivers(base, limit) {
				if got, want := impl.GiverOk(g), giverOkByWords(g); got != want {
					t.Fatalf("GiverOk of %#v is %v", g, got)
				}
			}
		}
	}
}

func TestNewGiver(t *testing.T) {
	for _, n := range []int64{1, 2, 6, 40, 399, 400} {
		if g, is := impl.NewGiver(n); !is || g != giver(0, "", n, 0) || !impl.GiverOk(g) {
			t.Errorf("NewGiver(%d) is %#v, %v", n, g, is)
		}
	}
	for _, n := range []int64{0, -1, 401, 402, 1000000000, math.MinInt64, math.MaxInt64} {
		if g, is := impl.NewGiver(n); is || g != (impl.Giver{}) {
			t.Errorf("NewGiver(%d) is %#v, %v", n, g, is)
		}
	}
}

func TestWritesOfNamedCases(t *testing.T) {
	last := int64(impl.MaxPlace)
	for _, c := range []struct {
		name  string
		g     impl.Giver
		bytes string
		want  impl.Giver
		n     int64
	}{
		{"the first", giver(0, "", 5, 0), "ab", giver(0, "ab", 5, 0), 2},
		{"behind the others", giver(0, "ab", 5, 0), "cd", giver(0, "abcd", 5, 0), 2},
		{"just what there is room for", giver(0, "ab", 5, 0), "cde", giver(0, "abcde", 5, 0), 3},
		{"one byte more", giver(0, "ab", 5, 0), "cdef", giver(0, "abcde", 5, 0), 3},
		{"no room", giver(0, "abcde", 5, 0), "f", giver(0, "abcde", 5, 0), 0},
		{"no bytes", giver(3, "de", 5, 9), "", giver(3, "de", 5, 9), 0},
		{"no bytes, no room", giver(0, "abcde", 5, 0), "", giver(0, "abcde", 5, 0), 0},
		{"the Limit does not count", giver(3, "de", 5, 4), "fgh", giver(3, "defgh", 5, 4), 3},
		{"Cap 1", giver(3, "", 1, 3), "de", giver(3, "d", 1, 3), 1},
		{"Cap 1, filled", giver(3, "d", 1, 3), "e", giver(3, "d", 1, 3), 0},
		{"just MaxCap", giver(3, "", 400, 3), textFrom(3, 400), giver(3, textFrom(3, 400), 400, 3), 400},
		{"one more than MaxCap", giver(3, "", 400, 3), textFrom(3, 401), giver(3, textFrom(3, 400), 400, 3), 400},
		{"one less than MaxCap", giver(3, "", 400, 3), textFrom(3, 399), giver(3, textFrom(3, 399), 400, 3), 399},
		{"far more", giver(3, "de", 400, 3), strings.Repeat("f", 100000), giver(3, "de"+strings.Repeat("f", 398), 400, 3), 398},
		{"at its End", endedGiver(3, "de", 5, 9), "f", endedGiver(3, "de", 5, 9), 0},
		{"at its End, no bytes", endedGiver(3, "de", 5, 9), "", endedGiver(3, "de", 5, 9), 0},
		{"Done", doneGiver(3, 5, 9), "d", doneGiver(3, 5, 9), 0},
		{"just up to MaxPlace", giver(last-3, "", 400, last), "xyz", giver(last-3, "xyz", 400, last), 3},
		{"one byte more than up to MaxPlace", giver(last-3, "x", 400, last), "yz!", giver(last-3, "xyz", 400, last), 2},
		{"at MaxPlace", giver(last, "", 400, last), "!", giver(last, "", 400, last), 0},
		{"at MaxPlace, Cap 1", giver(last, "", 1, last), "!", giver(last, "", 1, last), 0},
		{"Cap just what is left of places", giver(last-2, "", 2, last), "yz!", giver(last-2, "yz", 2, last), 2},
		{"every byte", giver(5, "", 400, 5), everyByte(), giver(5, everyByte(), 400, 5), 256},
	} {
		if got, n := impl.Writes(c.g, c.bytes); got != c.want || n != c.n {
			t.Errorf("%s: Writes of %#v is %#v, %d", c.name, c.g, got, n)
		}
	}
}

func TestWritesOfEverySmallOne(t *testing.T) {
	eachSmallGiver(func(g impl.Giver) {
		for n := range int64(7) {
			bytes := textFrom(behindKept(g)+90, n)
			got, count := impl.Writes(g, bytes)
			want, should := writesOneByOne(g, bytes)
			if got != want || count != should || !giverOkByWords(got) {
				t.Fatalf("Writes of %#v, %q is %#v, %d", g, bytes, got, count)
			}
		}
	})
}

func TestEndsOfEachGiver(t *testing.T) {
	check := func(g impl.Giver) {
		want, should := g, !g.End
		want.End = true
		got, is := impl.Ends(g)
		if got != want || is != should || !giverOkByWords(got) {
			t.Fatalf("Ends of %#v is %#v, %v", g, got, is)
		}
		if again, is := impl.Ends(got); is || again != got {
			t.Fatalf("Ends again of %#v is %#v, %v", got, again, is)
		}
		if full, n := impl.Writes(got, "more"); n != 0 || full != got {
			t.Fatalf("Writes behind the End of %#v is %#v, %d", got, full, n)
		}
	}
	for _, g := range rightGivers() {
		check(g)
	}
	eachSmallGiver(check)
}

func TestOffersOfNamedCases(t *testing.T) {
	last := int64(impl.MaxPlace)
	none := impl.Part{}
	open, ended := giver(7, "hijkl", 9, 12), endedGiver(7, "hijkl", 9, 12)
	for _, c := range []struct {
		name  string
		g     impl.Giver
		at, n int64
		want  impl.Part
		ends  bool
		is    bool
	}{
		{"all", open, 7, 5, part(7, "hijkl"), false, true},
		{"all, and more asked", open, 7, 40, part(7, "hijkl"), false, true},
		{"the first", open, 7, 1, part(7, "h"), false, true},
		{"some", open, 8, 2, part(8, "ij"), false, true},
		{"the last", open, 11, 40, part(11, "l"), false, true},
		{"at just behind all", open, 12, 40, none, false, false},
		{"at one past", open, 13, 40, none, false, false},
		{"at one below Base", open, 6, 40, none, false, false},
		{"n 0", open, 7, 0, none, false, false},
		{"n -1", open, 7, -1, none, false, false},
		{"n MaxBytes and one more", open, 7, 41, none, false, false},
		{"just MaxBytes of more", giver(0, textFrom(0, 400), 400, 400), 3, 40, part(3, textFrom(3, 40)), false, true},
		{"one less than MaxBytes of more", giver(0, textFrom(0, 400), 400, 400), 3, 39, part(3, textFrom(3, 39)), false, true},
		{"the last MaxBytes", endedGiver(0, textFrom(0, 400), 400, 400), 360, 40, part(360, textFrom(360, 40)), true, true},
		{"the last MaxBytes and one", endedGiver(0, textFrom(0, 400), 400, 400), 359, 40, part(359, textFrom(359, 40)), false, true},
		{"a Limit within", giver(7, "hijkl", 9, 10), 7, 40, part(7, "hij"), false, true},
		{"a Limit within, at just ahead of it", giver(7, "hijkl", 9, 10), 9, 40, part(9, "j"), false, true},
		{"a Limit within, at it", giver(7, "hijkl", 9, 10), 10, 40, none, false, false},
		{"a Limit within, behind it", giver(7, "hijkl", 9, 10), 11, 40, none, false, false},
		{"a Limit at Base", giver(7, "hijkl", 9, 7), 7, 40, none, false, false},
		{"a Limit one above Base", giver(7, "hijkl", 9, 8), 7, 40, part(7, "h"), false, true},
		{"a Limit one below all", giver(7, "hijkl", 9, 11), 7, 40, part(7, "hijk"), false, true},
		{"a Limit far behind", giver(7, "hijkl", 9, last), 7, 40, part(7, "hijkl"), false, true},
		{"the end with all", ended, 7, 40, part(7, "hijkl"), true, true},
		{"the end with all, just as many asked", ended, 7, 5, part(7, "hijkl"), true, true},
		{"one too few for the end", ended, 7, 4, part(7, "hijk"), false, true},
		{"the end with the last", ended, 11, 1, part(11, "l"), true, true},
		{"no byte of the last", ended, 11, 0, none, false, false},
		{"the end by itself", ended, 12, 40, part(12, ""), true, true},
		{"the end by itself, n 0", ended, 12, 0, part(12, ""), true, true},
		{"the end by itself, n -1", ended, 12, -1, none, false, false},
		{"the end by itself, n 41", ended, 12, 41, none, false, false},
		{"one past the end", ended, 13, 40, none, false, false},
		{"one below Base, at its End", ended, 6, 40, none, false, false},
		{"a Limit holds the last back, and the end with it", endedGiver(7, "hijkl", 9, 11), 7, 40, part(7, "hijk"), false, true},
		{"a Limit just behind all", endedGiver(7, "hijkl", 9, 12), 10, 40, part(10, "kl"), true, true},
		{"a Limit at Base, at its End", endedGiver(7, "hijkl", 9, 7), 7, 40, none, false, false},
		{"the end by itself above the Limit", endedGiver(7, "hijkl", 9, 7), 12, 40, part(12, ""), true, true},
		{"no Bytes", giver(7, "", 9, 99), 7, 40, none, false, false},
		{"no Bytes, at its End", endedGiver(7, "", 9, 7), 7, 40, part(7, ""), true, true},
		{"no Bytes, at its End, one past", endedGiver(7, "", 9, 99), 8, 40, none, false, false},
		{"the end at place 0", endedGiver(0, "", 1, 0), 0, 0, part(0, ""), true, true},
		{"Done", doneGiver(7, 9, 7), 7, 40, part(7, ""), true, true},
		{"the last places", endedGiver(last-2, "yz", 9, last), last - 2, 40, part(last-2, "yz"), true, true},
		{"the end at MaxPlace", endedGiver(last-2, "yz", 9, last), last, 40, part(last, ""), true, true},
		{"behind MaxPlace", endedGiver(last-2, "yz", 9, last), last + 1, 40, none, false, false},
		{"every byte", giver(5, everyByte(), 400, 300), 205, 40, part(205, everyByte()[200:240]), false, true},
	} {
		if got, ends, is := impl.Offers(c.g, c.at, c.n); got != c.want || ends != c.ends || is != c.is {
			t.Errorf("%s: Offers of %#v, %d, %d is %#v, %v, %v", c.name, c.g, c.at, c.n, got, ends, is)
		}
	}
}

func checkOffers(t *testing.T, g impl.Giver, at int64, n int64) {
	t.Helper()
	got, ends, is := impl.Offers(g, at, n)
	want, shouldEnd, should := offersPlaceByPlace(g, at, n)
	if got != want || ends != shouldEnd || is != should {
		t.Fatalf("Offers of %#v, %d, %d is %#v, %v, %v, not %#v, %v, %v", g, at, n, got, ends, is, want, shouldEnd, should)
	}
}

func TestOffersOfEverySmallOne(t *testing.T) {
	eachSmallGiver(func(g impl.Giver) {
		for at := g.Base - 2; at <= behindKept(g)+2; at++ {
			for _, n := range []int64{-1, 0, 1, 2, 3, 4, 5, 39, 40, 41} {
				checkOffers(t, g, at, n)
			}
		}
	})
}

func TestOffersOfGreatOnes(t *testing.T) {
	for _, base := range []int64{0, 7, 399, 400, 401, impl.MaxPlace - 400} {
		for _, upTo := range []int64{base, base + 1, base + 200, base + 399, base + 400, impl.MaxPlace} {
			for at := base - 1; at <= base+401; at++ {
				checkOffers(t, giver(base, textFrom(base, 400), 400, upTo), at, 40)
				checkOffers(t, endedGiver(base, textFrom(base, 400), 400, upTo), at, 17)
			}
		}
	}
}

func TestOffersOutOfRange(t *testing.T) {
	for _, g := range rightGivers() {
		for _, at := range noPlaces() {
			for _, n := range []int64{0, 1, 40} {
				if got, ends, is := impl.Offers(g, at, n); got != (impl.Part{}) || ends || is {
					t.Fatalf("Offers of %#v, %d, %d is %#v, %v, %v", g, at, n, got, ends, is)
				}
			}
		}
		for _, n := range []int64{-1, -2, 41, 42, 400, math.MinInt64, math.MaxInt64} {
			for _, at := range []int64{g.Base, g.Base + 1, behindKept(g)} {
				if got, ends, is := impl.Offers(g, at, n); got != (impl.Part{}) || ends || is {
					t.Fatalf("Offers of %#v, %d, %d is %#v, %v, %v", g, at, n, got, ends, is)
				}
			}
		}
	}
}

func TestHearsOfNamedCases(t *testing.T) {
	last := int64(impl.MaxPlace)
	open, ended := giver(7, "hijkl", 9, 12), endedGiver(7, "hijkl", 9, 12)
	empty, done := endedGiver(7, "", 9, 12), doneGiver(7, 9, 12)
	for _, c := range []struct {
		name        string
		g           impl.Giver
		base, limit int64
		done        bool
		want        impl.Giver
		is          bool
	}{
		{"nothing new", open, 7, 12, false, open, false},
		{"one byte", open, 8, 12, false, giver(8, "ijkl", 9, 12), true},
		{"all but one", open, 11, 12, false, giver(11, "l", 9, 12), true},
		{"all, just behind the Bytes", open, 12, 12, false, giver(12, "", 9, 12), true},
		{"one past", open, 13, 12, false, open, false},
		{"one past, and all else new", ended, 13, 99, true, ended, false},
		{"one below Base", open, 6, 12, false, open, false},
		{"one below Base, and all else new", empty, 6, 99, true, empty, false},
		{"a limit above", open, 7, 13, false, giver(7, "hijkl", 9, 13), true},
		{"a limit far above", open, 7, last, false, giver(7, "hijkl", 9, last), true},
		{"a limit below", open, 7, 11, false, open, false},
		{"a limit below, and a base", open, 9, 11, false, giver(9, "jkl", 9, 12), true},
		{"a limit below base", giver(7, "hijkl", 9, 8), 10, 9, false, giver(10, "kl", 9, 10), true},
		{"a limit just at base", giver(7, "hijkl", 9, 8), 10, 10, false, giver(10, "kl", 9, 10), true},
		{"a limit one above base", giver(7, "hijkl", 9, 8), 10, 11, false, giver(10, "kl", 9, 11), true},
		{"a limit below base and Limit", giver(7, "hijkl", 9, 11), 10, 9, false, giver(10, "kl", 9, 11), true},
		{"the limit 0", open, 7, 0, false, open, false},
		{"the limit MaxPlace and one more", open, 7, last + 1, false, open, false},
		{"the limit MaxPlace and one more, and a base", open, 9, last + 1, false, giver(9, "jkl", 9, 12), true},
		{"the limit -1, and a base above Limit", giver(7, "hijkl", 9, 7), 9, -1, false, giver(9, "jkl", 9, 9), true},
		{"done where it is not at its End", open, 7, 12, true, open, false},
		{"done where it is not at its End, all heard", open, 12, 12, true, giver(12, "", 9, 12), true},
		{"done where Bytes are left", ended, 7, 12, true, ended, false},
		{"done where one Byte is left", ended, 11, 12, true, endedGiver(11, "l", 9, 12), true},
		{"done with the last of them", ended, 12, 12, true, doneGiver(12, 9, 12), true},
		{"the last of them, not done", ended, 12, 12, false, endedGiver(12, "", 9, 12), true},
		{"done by itself", empty, 7, 12, true, done, true},
		{"done, and no place as limit", empty, 7, -1, true, done, true},
		{"done twice", done, 7, 12, true, done, false},
		{"no longer told", done, 7, 12, false, done, false},
		{"no longer told, with a limit above", done, 7, 13, false, doneGiver(7, 9, 13), true},
		{"one past, Done", done, 8, 13, true, done, false},
		{"just MaxPlace", endedGiver(last-2, "yz", 9, last-1), last, last, true, doneGiver(last, 9, last), true},
		{"behind MaxPlace", endedGiver(last-2, "yz", 9, last-1), last + 1, last, true, endedGiver(last-2, "yz", 9, last-1), false},
		{"Cap 1", giver(0, "a", 1, 0), 1, 2, false, giver(1, "", 1, 2), true},
		{"MaxCap", giver(3, textFrom(3, 400), 400, 3), 403, 803, false, giver(403, "", 400, 803), true},
	} {
		if got, is := impl.Hears(c.g, c.base, c.limit, c.done); got != c.want || is != c.is {
			t.Errorf("%s: Hears of %#v, %d, %d, %v is %#v, %v", c.name, c.g, c.base, c.limit, c.done, got, is)
		}
	}
}

func TestHearsOfEverySmallOne(t *testing.T) {
	eachSmallGiver(func(g impl.Giver) {
		for base := g.Base - 2; base <= behindKept(g)+2; base++ {
			limits := []int64{-1, 0, impl.MaxPlace + 1, math.MinInt64, math.MaxInt64}
			for limit := g.Base - 1; limit <= g.Limit+2; limit++ {
				limits = append(limits, limit)
			}
			for _, limit := range limits {
				for _, done := range []bool{false, true} {
					got, is := impl.Hears(g, base, limit, done)
					want, should := hearsOneByOne(g, base, limit, done)
					if got != want || is != should || is == (got == g) || !giverOkByWords(got) {
						t.Fatalf("Hears of %#v, %d, %d, %v is %#v, %v, not %#v, %v", g, base, limit, done, got, is, want, should)
					}
				}
			}
		}
	})
}

func TestHearsOutOfRange(t *testing.T) {
	for _, g := range rightGivers() {
		for _, base := range append(noPlaces(), g.Base-1, behindKept(g)+1) {
			for _, limit := range append(noPlaces(), 0, g.Limit, impl.MaxPlace) {
				for _, done := range []bool{false, true} {
					if got, is := impl.Hears(g, base, limit, done); is || got != g {
						t.Fatalf("Hears of %#v, %d, %d, %v is %#v, %v", g, base, limit, done, got, is)
					}
				}
			}
		}
		for _, limit := range noPlaces() {
			if got, is := impl.Hears(g, g.Base, limit, false); is || got != g {
				t.Fatalf("Hears of %#v with the limit %d is %#v, %v", g, limit, got, is)
			}
		}
	}
}

func TestWrongGiversAreRefused(t *testing.T) {
	zero := impl.Giver{}
	numbers := append(noPlaces(), 0, 1, 7, 8, 40, 41, impl.MaxPlace)
	for _, g := range wrongGivers() {
		for _, bytes := range []string{"", "a", textFrom(0, 500)} {
			if got, n := impl.Writes(g, bytes); got != zero || n != -1 {
				t.Fatalf("Writes of %#v is %#v, %d", g, got, n)
			}
		}
		if got, is := impl.Ends(g); got != zero || is {
			t.Fatalf("Ends of %#v is %#v, %v", g, got, is)
		}
		for _, at := range append(numbers, g.Base) {
			for _, n := range numbers {
				if got, ends, is := impl.Offers(g, at, n); got != (impl.Part{}) || ends || is {
					t.Fatalf("Offers of %#v is %#v, %v, %v", g, got, ends, is)
				}
				for _, done := range []bool{false, true} {
					if got, is := impl.Hears(g, at, n, done); got != zero || is {
						t.Fatalf("Hears of %#v is %#v, %v", g, got, is)
					}
				}
			}
		}
	}
}

// writer has the whole text beside the Giver that keeps what of it was not heard of.
type writer struct {
	g       impl.Giver
	text    string
	written int64
}

func (w *writer) writes(t *testing.T, n int64) {
	t.Helper()
	to := min(int64(len(w.text)), w.written+n)
	g, count := impl.Writes(w.g, w.text[w.written:to])
	if count < 0 || count > to-w.written || count < to-w.written && int64(len(g.Bytes)) != g.Cap {
		t.Fatalf("Writes of %d bytes to %#v is %#v, %d", to-w.written, w.g, g, count)
	}
	w.g, w.written = g, w.written+count
	if w.written == int64(len(w.text)) {
		w.g, _ = impl.Ends(w.g)
	}
}

// keeps asks for what was not heard of: it is kept, and each byte of it that may be sent is offered at its own place.
func (w *writer) keeps(t *testing.T) {
	t.Helper()
	if !impl.GiverOk(w.g) || w.g.Bytes != w.text[w.g.Base:w.written] {
		t.Fatalf("of what was written up to %d it keeps %#v", w.written, w.g)
	}
	sent := min(w.g.Limit, w.written)
	for at := w.g.Base; at < sent; at++ {
		p, _, is := impl.Offers(w.g, at, 40)
		if to := min(sent, at+40); !is || p != part(at, w.text[at:to]) {
			t.Fatalf("Offers of %#v at %d is %#v, %v", w.g, at, p, is)
		}
	}
}

func (w *writer) hears(t *testing.T, base int64, limit int64, done bool) {
	t.Helper()
	before := w.g
	g, is := impl.Hears(before, base, limit, done)
	if is == (g == before) || g.Base < before.Base || g.Limit < before.Limit || before.Done && !g.Done {
		t.Fatalf("Hears of %#v, %d, %d, %v is %#v, %v", before, base, limit, done, g, is)
	}
	if again, is := impl.Hears(g, base, limit, done); is || again != g {
		t.Fatalf("Hears of %#v, %d, %d, %v again is %#v, %v", g, base, limit, done, again, is)
	}
	w.g = g
}

// Whatever is told, in range or not, what was not heard of stays.
func TestWhatWasNotHeardOfIsKept(t *testing.T) {
	for _, c := range []struct{ limit, length int64 }{{1, 30}, {2, 60}, {3, 100}, {7, 300}, {40, 600}, {400, 1500}, {400, 0}, {5, 1}} {
		for seed := range steps(8) {
			w := &writer{g: newGiver(t, c.limit), text: textFrom(0, c.length)}
			for step := 0; !w.g.Done; step++ {
				if step > 50000 {
					t.Fatalf("it is never done: %#v", w.g)
				}
				w.writes(t, seed.below(c.limit+3))
				w.keeps(t)
				base := w.g.Base - 3 + seed.below(int64(len(w.g.Bytes))+7)
				w.hears(t, base, base-5+seed.below(c.limit+10), seed.below(4) == 0)
				w.keeps(t)
			}
			if w.g.Base != c.length || w.written != c.length || !w.g.End || w.g.Bytes != "" {
				t.Fatalf("Cap %d, %d bytes: %#v", c.limit, c.length, w.g)
			}
		}
	}
}

// What is offered is lost, comes twice, or comes late, and the reader has all of it nevertheless.
func TestWhatIsLostIsOfferedAgain(t *testing.T) {
	for _, c := range []struct{ give, take, length int64 }{{1, 1, 20}, {5, 3, 90}, {3, 9, 90}, {50, 400, 900}, {400, 60, 900}, {400, 400, 0}} {
		for seed := range steps(6) {
			w := &writer{g: newGiver(t, c.give), text: textFrom(0, c.length)}
			r := &reader{x: newTaker(t, c.take)}
			for step := 0; !w.g.Done; step++ {
				if step > 50000 {
					t.Fatalf("it is never done: %#v, %#v", w.g, r.x)
				}
				w.writes(t, seed.below(c.give+1))
				at := w.g.Base + seed.below(int64(len(w.g.Bytes))+1)
				p, ends, is := impl.Offers(w.g, at, seed.below(41))
				for range seed.below(3) {
					if is {
						r.comes(t, p.At, p.Bytes, ends)
					}
				}
				r.reads(t, seed.below(int64(len(r.x.Bytes))+1))
				if seed.below(2) == 0 {
					w.hears(t, r.x.Next, min(impl.MaxPlace, impl.LimitOf(r.x)), r.x.Ended)
				}
			}
			if r.read+r.x.Bytes != w.text || !r.x.Ended {
				t.Fatalf("of %d bytes came %#v", c.length, r.x)
			}
		}
	}
}

func TestHeardOfPieceByPiece(t *testing.T) {
	g := newGiver(t, 10)
	g, _ = impl.Writes(g, "abcd")
	g, _ = impl.Writes(g, "efg")
	g, _ = impl.Hears(g, 0, 6, false)
	first, _, _ := impl.Offers(g, 2, 3)
	again, _, _ := impl.Offers(g, 2, 3)
	if first != part(2, "cde") || again != first {
		t.Errorf("it offers %#v, then %#v", first, again)
	}
	g, _ = impl.Hears(g, 3, 6, false)
	if lost, ends, is := impl.Offers(g, 3, 40); lost != part(3, "def") || ends || !is {
		t.Errorf("of what was not heard of it offers %#v, %v, %v", lost, ends, is)
	}
	if heard, ends, is := impl.Offers(g, 2, 40); heard != (impl.Part{}) || ends || is {
		t.Errorf("of what was heard of it offers %#v, %v, %v", heard, ends, is)
	}
	g, n := impl.Writes(g, "hijklmnop")
	if n != 6 || g.Bytes != "defghijklm" {
		t.Errorf("where there is room for six it is %#v, %d", g, n)
	}
	g, _ = impl.Ends(g)
	g, _ = impl.Hears(g, 9, 13, true)
	if rest, ends, is := impl.Offers(g, 9, 40); rest != part(9, "jklm") || !ends || !is || g.Done {
		t.Errorf("the rest of %#v is %#v, %v, %v", g, rest, ends, is)
	}
	g, _ = impl.Hears(g, 13, 13, false)
	if end, ends, is := impl.Offers(g, 13, 40); end != part(13, "") || !ends || !is || g.Done {
		t.Errorf("the end of %#v is %#v, %v, %v", g, end, ends, is)
	}
	if g, is := impl.Hears(g, 13, 13, true); !is || g != doneGiver(13, 10, 13) {
		t.Errorf("at last it is %#v, %v", g, is)
	}
}

// What was asked of one Giver, and what is done with the answer, is not seen by who asks the same again.
func TestGiversStayAsTheyAre(t *testing.T) {
	for _, g := range rightGivers() {
		before := g
		written, n := impl.Writes(g, "more")
		ended, is := impl.Ends(g)
		offered, ends, told := impl.Offers(g, g.Base, 40)
		heard, changed := impl.Hears(g, behindKept(g), impl.MaxPlace, true)
		impl.Writes(heard, "others")
		impl.Hears(written, behindKept(written), 0, true)
		if g != before {
			t.Fatalf("%#v is now %#v", before, g)
		}
		if again, count := impl.Writes(g, "more"); again != written || count != n {
			t.Errorf("Writes of %#v is %#v, then %#v", g, written, again)
		}
		if again, still := impl.Ends(g); again != ended || still != is {
			t.Errorf("Ends of %#v is %#v, then %#v", g, ended, again)
		}
		if again, e, still := impl.Offers(g, g.Base, 40); again != offered || e != ends || still != told {
			t.Errorf("Offers of %#v is %#v, then %#v", g, offered, again)
		}
		if again, still := impl.Hears(g, behindKept(g), impl.MaxPlace, true); again != heard || still != changed {
			t.Errorf("Hears of %#v is %#v, then %#v", g, heard, again)
		}
	}
}
