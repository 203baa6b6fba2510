package tests

import (
	"math"
	"slices"
	"strings"
	"testing"

	"loop.example/g00450/impl"
)

const bytesOfOne = 40

func part(at int64, bytes string) impl.Part {
	return impl.Part{At: at, Bytes: bytes}
}

func newTaker(t *testing.T, limit int64) impl.Taker {
	t.Helper()
	x, is := impl.NewTaker(limit)
	if !is {
		t.Fatalf("NewTaker(%d) says no", limit)
	}
	return x
}

// taker has Next, Bytes, Cap and End as they are given; whether it is Ended follows from these.
func taker(next int64, bytes string, limit int64, end int64, parts ...impl.Part) impl.Taker {
	return impl.Taker{Next: next, Bytes: bytes, Parts: parts, Cap: limit, End: end, Ended: next == end}
}

func sameTaker(a, b impl.Taker) bool {
	return a.Next == b.Next && a.Bytes == b.Bytes && slices.Equal(a.Parts, b.Parts) && a.Cap == b.Cap && a.End == b.End && a.Ended == b.Ended
}

// textFrom is of as many bytes as asked, each told by its place, so that a byte at a wrong place is seen.
func textFrom(at int64, n int64) string {
	var text strings.Builder
	for place := at; place < at+n; place++ {
		text.WriteByte(byte(place%251 + place/251%5))
	}
	return text.String()
}

func behindOf(p impl.Part) int64 {
	return p.At + int64(len(p.Bytes))
}

// limitByWords is Next less how many Bytes there are, and Cap more.
func limitByWords(x impl.Taker) int64 {
	return x.Next - int64(len(x.Bytes)) + x.Cap
}

// takerOkByWords asks one thing of the document behind the other, of a Taker whose numbers are small or near to MaxPlace.
func takerOkByWords(x impl.Taker) bool {
	is := x.Cap >= 1 && x.Cap <= 400
	is = is && x.Next >= 0 && x.Next <= 1000000000
	is = is && int64(len(x.Bytes)) <= x.Cap && int64(len(x.Bytes)) <= x.Next
	for k, p := range x.Parts {
		is = is && p.At >= 0 && p.At <= 1000000000 && len(p.Bytes) >= 1 && len(p.Bytes) <= 40
		is = is && p.At > x.Next && behindOf(p) <= limitByWords(x) && behindOf(p) <= 1000000000
		is = is && (k == 0 || x.Parts[k-1].At < p.At && behindOf(x.Parts[k-1]) <= p.At)
		is = is && (x.End == -1 || x.End >= behindOf(p))
	}
	is = is && (x.End == -1 || x.End >= x.Next && x.End <= 1000000000)
	return is && x.Ended == (x.Next == x.End)
}

// A cell is one place of a row: what byte is there, and of which Part (none: nothing is there).
type cell struct {
	part int
	byte byte
}

// takesByPlaces goes place by place where the program goes by holes.
func takesByPlaces(x impl.Taker, at int64, bytes string, end bool) (impl.Taker, bool) {
	behind := at + int64(len(bytes))
	row := make([]cell, x.Cap)
	last := x.Next
	for k, p := range x.Parts {
		for j := range len(p.Bytes) {
			row[p.At+int64(j)-x.Next] = cell{k + 1, p.Bytes[j]}
		}
		last = behindOf(p)
	}
	if at < 0 || behind > 1000000000 || len(bytes) > 40 || x.End != -1 && behind > x.End {
		return x, false
	}
	if end && (behind < last || x.End != -1 && behind != x.End) {
		return x, false
	}
	changed, count := false, len(x.Parts)+1
	for k := range len(bytes) {
		place := at + int64(k)
		if place < x.Next || place >= limitByWords(x) || row[place-x.Next].part != 0 {
			count++
			continue
		}
		row[place-x.Next] = cell{count, bytes[k]}
		changed = true
	}
	if end && x.End == -1 {
		x.End, changed = behind, true
	}
	return takerOfRow(x, row), changed
}

// takerOfRow puts to Bytes what is there from Next on, and makes Parts of all else.
func takerOfRow(x impl.Taker, row []cell) impl.Taker {
	ahead := 0
	for ahead < len(row) && row[ahead].part != 0 {
		x.Bytes += string([]byte{row[ahead].byte})
		ahead++
	}
	x.Parts = nil
	for k := ahead; k < len(row); k++ {
		if row[k].part == 0 {
			continue
		}
		if row[k].part != row[k-1].part {
			x.Parts = append(x.Parts, part(x.Next+int64(k), ""))
		}
		x.Parts[len(x.Parts)-1].Bytes += string([]byte{row[k].byte})
	}
	x.Next += int64(ahead)
	x.Ended = x.Next == x.End
	return x
}

// partsOfDigits: digit k of 3 tells whether at place from and k there is nothing (0), one more byte of a Part (1), or a new one's first (2).
func partsOfDigits(digits int, from int64, width int) []impl.Part {
	var list []impl.Part
	there := false
	for k := range width {
		place, digit := from+int64(k), digits%3
		digits /= 3
		letter := string([]byte{byte('A' + place%26)})
		if digit == 2 || digit == 1 && !there {
			list = append(list, part(place, letter))
		} else if digit == 1 {
			list[len(list)-1].Bytes += letter
		}
		there = digit != 0
	}
	return list
}

// smallTakers are right and wrong: each way in which few places can be filled, told anew for each End that can matter.
func smallTakers(next int64, limit int64) []impl.Taker {
	var list []impl.Taker
	width, rows := int(limit)+2, 1
	for range width {
		rows *= 3
	}
	for bytes := range limit + 2 {
		for digits := range rows {
			parts := partsOfDigits(digits, next, width)
			for _, end := range []int64{-2, -1, 0, next - 1, next, next + 1, next + 2, next + limit, next + limit + 1, next + limit + 4} {
				list = append(list, taker(next, textFrom(next-bytes, bytes), limit, end, parts...))
			}
		}
	}
	return list
}

func rightTakers() []impl.Taker {
	last := int64(impl.MaxPlace)
	return []impl.Taker{
		taker(0, "", 1, -1),
		taker(0, "", 1, 0),
		taker(0, "", 400, -1),
		taker(1, "a", 1, -1),
		taker(1, "a", 1, 1),
		taker(5, "", 1, last),
		taker(400, strings.Repeat("a", 400), 400, -1),
		taker(401, strings.Repeat("a", 400), 400, 401),
		taker(400, "", 400, 800, part(760, strings.Repeat("z", 40))),
		taker(0, "", 6, -1, part(2, "cde")),
		taker(0, "", 6, 5, part(2, "cde")),
		taker(0, "", 6, -1, part(1, "bcdef")),
		taker(0, "", 6, -1, part(1, "b"), part(2, "cd"), part(5, "f")),
		taker(7, "efg", 9, 12, part(8, "i"), part(10, "kl")),
		taker(last, "", 1, -1),
		taker(last, "", 400, last),
		taker(last, strings.Repeat("a", 400), 400, last),
		taker(last-5, "ab", 9, last, part(last-4, "x"), part(last-2, "yz")),
		taker(last-5, "", 400, -1, part(last-1, "x")),
	}
}

// wrongTakers are wrong in one field each, or in what two of them say of each other.
func wrongTakers() []impl.Taker {
	last := int64(impl.MaxPlace)
	long := strings.Repeat("z", 41)
	list := []impl.Taker{
		{},
		taker(401, strings.Repeat("a", 401), 400, -1),
		taker(3, "ab", 1, -1),
		taker(1, "ab", 9, -1),
		taker(0, "a", 9, -1),
		taker(0, "", 6, -1, part(0, "ab")),
		taker(3, "abc", 6, -1, part(3, "d")),
		taker(3, "abc", 6, -1, part(2, "c")),
		taker(3, "abc", 6, -1, part(0, "abc")),
		taker(0, "", 6, -1, part(2, "")),
		taker(0, "", 6, -1, part(2, "cd"), part(5, "")),
		taker(0, "", 99, -1, part(2, long)),
		taker(0, "", 99, -1, part(2, "cd"), part(9, long)),
		taker(0, "", 6, -1, part(2, "cdefg")),
		taker(0, "", 6, -1, part(6, "g")),
		taker(7, "efg", 6, -1, part(8, "ijk")),
		taker(0, "", 9, -1, part(5, "f"), part(2, "c")),
		taker(0, "", 9, -1, part(2, "c"), part(2, "c")),
		taker(0, "", 9, -1, part(2, "cde"), part(4, "ef")),
		taker(0, "", 9, -1, part(2, "cdef"), part(3, "d")),
		taker(0, "", 6, 4, part(2, "cde")),
		taker(0, "", 9, 4, part(2, "cd"), part(5, "f")),
		taker(3, "abc", 6, 2),
		taker(3, "abc", 6, -2),
		taker(0, "", 6, last+1),
		taker(last, "", 6, -1, part(last, "a")),
		taker(last-3, "", 6, -1, part(last, "a")),
		taker(last-3, "", 6, -1, part(last-1, "ab")),
		taker(last, "", 6, -1, part(last+1, "b")),
	}
	for _, n := range []int64{0, -1, 401, 402, last, math.MinInt64, math.MaxInt64} {
		list = append(list, taker(0, "", n, -1), taker(3, "ab", n, 9), taker(0, "", n, -1, part(2, "cd")))
	}
	for _, p := range noPlaces() {
		list = append(list, taker(p, "", 6, -1), taker(p, "ab", 400, 9), taker(p, "", 6, -1, part(2, "cd")), taker(p, "", 6, p),
			taker(0, "", 6, -1, part(p, "ab")), taker(0, "", 6, -1, part(2, "ab"), part(p, "ab")), taker(0, "", 6, -1, part(p, "ab"), part(4, "ab")))
		if p != -1 {
			list = append(list, taker(0, "", 6, p), taker(3, "ab", 9, p, part(5, "f")))
		}
	}
	for _, x := range rightTakers() {
		x.Ended = !x.Ended
		list = append(list, x)
	}
	return list
}

func TestTakerOk(t *testing.T) {
	for _, x := range rightTakers() {
		if !impl.TakerOk(x) {
			t.Errorf("TakerOk says no to %#v", x)
		}
	}
	for _, x := range wrongTakers() {
		if impl.TakerOk(x) {
			t.Errorf("TakerOk says yes to %#v", x)
		}
	}
	if impl.MaxCap != 400 {
		t.Errorf("MaxCap is %d", impl.MaxCap)
	}
}

func TestTakerOkOfEverySmallOne(t *testing.T) {
	for _, next := range []int64{0, 1, 3, 70, impl.MaxPlace - 3, impl.MaxPlace - 1, impl.MaxPlace} {
		for limit := range int64(4) {
			for _, x := range smallTakers(next, limit) {
				for range 2 {
					if got, want := impl.TakerOk(x), takerOkByWords(x); got != want {
						t.Fatalf("TakerOk of %#v is %v", x, got)
					}
					x.Ended = !x.Ended
				}
			}
		}
	}
}

func TestNewTaker(t *testing.T) {
	for _, n := range []int64{1, 2, 6, 40, 399, 400} {
		x, is := impl.NewTaker(n)
		if !is || !impl.TakerOk(x) || !sameTaker(x, taker(0, "", n, -1)) || impl.LimitOf(x) != n {
			t.Errorf("NewTaker(%d) is %#v, %v", n, x, is)
		}
	}
	for _, n := range []int64{0, -1, 401, 402, 1000000000, math.MinInt64, math.MaxInt64} {
		if x, is := impl.NewTaker(n); is || !sameTaker(x, impl.Taker{}) {
			t.Errorf("NewTaker(%d) is %#v, %v", n, x, is)
		}
	}
}

func TestLimitOf(t *testing.T) {
	for _, c := range []struct {
		x    impl.Taker
		want int64
	}{
		{taker(0, "", 1, -1), 1},
		{taker(0, "", 400, -1), 400},
		{taker(9, "", 6, -1), 15},
		{taker(9, "fghi", 6, -1), 11},
		{taker(9, "defghi", 6, -1), 9},
		{taker(9, "fghi", 6, 9), 11},
		{taker(9, "fghi", 6, 11, part(10, "k")), 11},
		{taker(impl.MaxPlace, "", 400, -1), 1000000400},
		{taker(impl.MaxPlace, "ab", 2, -1), 1000000000},
	} {
		if got := impl.LimitOf(c.x); got != c.want {
			t.Errorf("LimitOf %#v is %d, not %d", c.x, got, c.want)
		}
	}
	for _, x := range wrongTakers() {
		if got := impl.LimitOf(x); got != -1 {
			t.Errorf("LimitOf %#v is %d", x, got)
		}
	}
}

func TestTakesOfNamedCases(t *testing.T) {
	start := taker(0, "", 6, -1)
	holed := taker(2, "ab", 12, -1, part(4, "E"), part(7, "HI"))
	for _, c := range []struct {
		name  string
		x     impl.Taker
		at    int64
		bytes string
		end   bool
		want  impl.Taker
		is    bool
	}{
		{"what is next", start, 0, "ab", false, taker(2, "ab", 6, -1), true},
		{"behind a hole", start, 2, "cde", false, taker(0, "", 6, -1, part(2, "cde")), true},
		{"just to the limit", start, 0, "abcdef", false, taker(6, "abcdef", 6, -1), true},
		{"one past it", start, 0, "abcdefg", false, taker(6, "abcdef", 6, -1), true},
		{"a Part just to the limit", start, 4, "ef", false, taker(0, "", 6, -1, part(4, "ef")), true},
		{"a Part one past it", start, 4, "efg", false, taker(0, "", 6, -1, part(4, "ef")), true},
		{"at the limit", start, 6, "g", false, start, false},
		{"the last below the limit", start, 5, "f", false, taker(0, "", 6, -1, part(5, "f")), true},
		{"no bytes", start, 0, "", false, start, false},
		{"no bytes, behind a hole", start, 3, "", false, start, false},
		{"no bytes, but the end", start, 0, "", true, taker(0, "", 6, 0), true},
		{"no bytes, but a later end", start, 3, "", true, taker(0, "", 6, 3), true},
		{"an end above the limit", start, 9, "", true, taker(0, "", 6, 9), true},
		{"an end that is cut off", start, 3, "defgh", true, taker(0, "", 6, 8, part(3, "def")), true},
		{"all, and the end", start, 0, "abc", true, taker(3, "abc", 6, 3), true},
		{"below Next", holed, 0, "ab", false, holed, false},
		{"below Next and on", holed, 0, "abc", false, taker(3, "abc", 12, -1, part(4, "E"), part(7, "HI")), true},
		{"it closes the hole", holed, 2, "cd", false, taker(5, "abcdE", 12, -1, part(7, "HI")), true},
		{"it closes both holes", holed, 1, "bcdefghijk", false, taker(11, "abcdEfgHIjk", 12, -1), true},
		{"between, touching none", taker(2, "ab", 12, -1, part(4, "E"), part(8, "I")), 6, "g", false, taker(2, "ab", 12, -1, part(4, "E"), part(6, "g"), part(8, "I")), true},
		{"between, touching the first", holed, 5, "f", false, taker(2, "ab", 12, -1, part(4, "E"), part(5, "f"), part(7, "HI")), true},
		{"between, touching the next", holed, 6, "g", false, taker(2, "ab", 12, -1, part(4, "E"), part(6, "g"), part(7, "HI")), true},
		{"between, touching both", holed, 5, "fg", false, taker(2, "ab", 12, -1, part(4, "E"), part(5, "fg"), part(7, "HI")), true},
		{"over all, behind the hole", holed, 3, "defghijklm", false, taker(2, "ab", 12, -1, part(3, "d"), part(4, "E"), part(5, "fg"), part(7, "HI"), part(9, "jkl")), true},
		{"it was there", holed, 7, "hi", false, holed, false},
		{"it was there, and the end is new", holed, 7, "hi", true, taker(2, "ab", 12, 9, part(4, "E"), part(7, "HI")), true},
		{"the end just at what is in Parts", holed, 9, "", true, taker(2, "ab", 12, 9, part(4, "E"), part(7, "HI")), true},
		{"the end one below what is in Parts", holed, 8, "", true, holed, false},
		{"the end below a Part, with what is missing", holed, 2, "cd", true, holed, false},
		{"the end at Next", taker(2, "ab", 6, -1), 2, "", true, taker(2, "ab", 6, 2), true},
		{"the end at Next again, with bytes", taker(2, "ab", 6, -1), 0, "ab", true, taker(2, "ab", 6, 2), true},
		{"the end one below Next", taker(2, "ab", 6, -1), 1, "", true, taker(2, "ab", 6, -1), false},
		{"the end once more", taker(2, "ab", 6, 2), 2, "", true, taker(2, "ab", 6, 2), false},
		{"the end once more, with bytes that are missing", taker(2, "ab", 6, 4), 3, "d", true, taker(2, "ab", 6, 4, part(3, "d")), true},
		{"the end below End", taker(2, "ab", 6, 4), 2, "c", true, taker(2, "ab", 6, 4), false},
		{"the end above End", taker(2, "ab", 6, 4), 2, "cde", true, taker(2, "ab", 6, 4), false},
		{"just to End", taker(2, "ab", 6, 4), 2, "cd", false, taker(4, "abcd", 6, 4), true},
		{"one byte past End", taker(2, "ab", 6, 4), 2, "cde", false, taker(2, "ab", 6, 4), false},
		{"past End where there is no room", taker(2, "ab", 2, 4), 4, "e", false, taker(2, "ab", 2, 4), false},
		{"it takes the last of all", taker(2, "ab", 6, 4, part(3, "D")), 2, "c", false, taker(4, "abcD", 6, 4), true},
		{"no room", taker(2, "ab", 2, -1), 2, "c", false, taker(2, "ab", 2, -1), false},
		{"no room, but the end", taker(2, "ab", 2, -1), 2, "c", true, taker(2, "ab", 2, 3), true},
		{"Cap 1", taker(0, "", 1, -1), 0, "ab", false, taker(1, "a", 1, -1), true},
		{"Cap 1, behind a hole", taker(0, "", 1, -1), 1, "b", false, taker(0, "", 1, -1), false},
		{"at MaxPlace", taker(impl.MaxPlace, "", 6, -1), impl.MaxPlace, "", true, taker(impl.MaxPlace, "", 6, impl.MaxPlace), true},
		{"just to MaxPlace", taker(impl.MaxPlace-2, "", 6, -1), impl.MaxPlace - 2, "yz", false, taker(impl.MaxPlace, "yz", 6, -1), true},
		{"a Part just to MaxPlace", taker(impl.MaxPlace-2, "", 6, -1), impl.MaxPlace - 1, "z", true, taker(impl.MaxPlace-2, "", 6, impl.MaxPlace, part(impl.MaxPlace-1, "z")), true},
		{"one past MaxPlace", taker(impl.MaxPlace-2, "", 6, -1), impl.MaxPlace - 2, "xyz", false, taker(impl.MaxPlace-2, "", 6, -1), false},
		{"at one more than MaxPlace", taker(impl.MaxPlace, "", 6, -1), impl.MaxPlace + 1, "", true, taker(impl.MaxPlace, "", 6, -1), false},
		{"at one below 0", start, -1, "ab", false, start, false},
		{"no bytes at one below 0", start, -1, "", true, start, false},
	} {
		got, is := impl.Takes(c.x, c.at, c.bytes, c.end)
		if is != c.is || !sameTaker(got, c.want) {
			t.Errorf("%s: %#v, %v", c.name, got, is)
		}
	}
}

func TestTakesMaxBytes(t *testing.T) {
	for _, at := range []int64{0, 3} {
		x := newTaker(t, 400)
		most, more := textFrom(at, bytesOfOne), textFrom(at, bytesOfOne+1)
		got, is := impl.Takes(x, at, most, true)
		if !is || got.End != at+bytesOfOne || int64(len(got.Bytes)) != got.Next || !impl.TakerOk(got) || got.Ended != (at == 0) {
			t.Errorf("MaxBytes at %d: %#v, %v", at, got, is)
		}
		for _, end := range []bool{false, true} {
			if got, is := impl.Takes(x, at, more, end); is || !sameTaker(got, x) {
				t.Errorf("one byte more at %d: %#v, %v", at, got, is)
			}
		}
	}
}

func TestTakesMaxCap(t *testing.T) {
	x := newTaker(t, 400)
	for at := int64(0); at < 440; at += bytesOfOne {
		x, _ = impl.Takes(x, at, textFrom(at, bytesOfOne), false)
	}
	if !sameTaker(x, taker(400, textFrom(0, 400), 400, -1)) {
		t.Errorf("all of it: %#v", x)
	}
	x = newTaker(t, 400)
	for at := int64(399); at > 0; at -= 2 {
		x, _ = impl.Takes(x, at, textFrom(at, 1), false)
	}
	if len(x.Parts) != 200 || x.Next != 0 || !impl.TakerOk(x) {
		t.Errorf("every other byte: %#v", x)
	}
	for at := int64(0); at < 400; at += bytesOfOne {
		x, _ = impl.Takes(x, at, textFrom(at, bytesOfOne), at == 360)
	}
	if !sameTaker(x, taker(400, textFrom(0, 400), 400, 400)) {
		t.Errorf("the rest: %#v", x)
	}
}

func checkTakes(t *testing.T, x impl.Taker, at int64, bytes string, end bool) {
	t.Helper()
	got, is := impl.Takes(x, at, bytes, end)
	want, should := takesByPlaces(x, at, bytes, end)
	if is != should || !sameTaker(got, want) || !takerOkByWords(got) {
		t.Fatalf("Takes of %#v, at %d, %q, %v is %#v, %v, not %#v, %v", x, at, bytes, end, got, is, want, should)
	}
}

func TestTakesOfEverySmallOne(t *testing.T) {
	const bytes = "abcdefgh"
	for _, next := range []int64{0, 2, impl.MaxPlace - 2} {
		for limit := int64(1); limit <= 4; limit++ {
			for _, x := range smallTakers(next, limit) {
				if !takerOkByWords(x) {
					continue
				}
				for at := next - 2; at <= next+limit+1; at++ {
					for n := range limit + 3 {
						checkTakes(t, x, at, bytes[:n], false)
						checkTakes(t, x, at, bytes[:n], true)
					}
				}
			}
		}
	}
}

func TestTakesOfWrongOnes(t *testing.T) {
	for _, x := range wrongTakers() {
		for _, at := range append(noPlaces(), 0, 2, impl.MaxPlace) {
			for _, bytes := range []string{"", "a", "abcdefgh", strings.Repeat("a", 41)} {
				for _, end := range []bool{false, true} {
					if got, is := impl.Takes(x, at, bytes, end); is || !sameTaker(got, impl.Taker{}) {
						t.Fatalf("Takes of %#v is %#v, %v", x, got, is)
					}
				}
			}
		}
	}
}

func TestTakesAtNoPlace(t *testing.T) {
	for _, x := range rightTakers() {
		for _, at := range noPlaces() {
			for _, bytes := range []string{"", "a", strings.Repeat("a", 40)} {
				for _, end := range []bool{false, true} {
					if got, is := impl.Takes(x, at, bytes, end); is || !sameTaker(got, x) {
						t.Fatalf("Takes of %#v at %d is %#v, %v", x, at, got, is)
					}
				}
			}
		}
		for n := int64(1); n <= 40; n++ {
			at := impl.MaxPlace - n + 1
			if got, is := impl.Takes(x, at, textFrom(at, n), true); is || !sameTaker(got, x) {
				t.Fatalf("Takes of %#v at %d, %d bytes, is %#v, %v", x, at, n, got, is)
			}
		}
	}
}

// steps gives the same numbers below n each time, in no order that a reader would see.
type steps uint64

func (r *steps) below(n int64) int64 {
	*r = *r*6364136223846793005 + 1442695040888963407
	return int64(uint64(*r)>>33) % n
}

// reader takes away and keeps what it took.
type reader struct {
	x    impl.Taker
	read string
}

func (r *reader) reads(t *testing.T, n int64) {
	t.Helper()
	before := impl.LimitOf(r.x)
	x, bytes := impl.TakenAway(r.x, n)
	if impl.LimitOf(x) != before+int64(len(bytes)) || !impl.TakerOk(x) || x.Next != r.x.Next {
		t.Fatalf("TakenAway(%d) of %#v is %#v", n, r.x, x)
	}
	r.x, r.read = x, r.read+bytes
}

func (r *reader) comes(t *testing.T, at int64, bytes string, end bool) {
	t.Helper()
	had := r.read + r.x.Bytes
	x, is := impl.Takes(r.x, at, bytes, end)
	if !impl.TakerOk(x) || is == sameTaker(x, r.x) || impl.LimitOf(x) != impl.LimitOf(r.x) || !strings.HasPrefix(r.read+x.Bytes, had) {
		t.Fatalf("Takes at %d of %#v is %#v, %v", at, r.x, x, is)
	}
	if again, is := impl.Takes(x, at, bytes, end); is || !sameTaker(again, x) {
		t.Fatalf("Takes at %d again: %#v, %v", at, again, is)
	}
	r.x = x
}

func TestEachPlaceIsTakenOnceInOrder(t *testing.T) {
	for _, c := range []struct{ limit, length int64 }{{1, 9}, {2, 40}, {7, 300}, {40, 700}, {400, 1500}, {400, 0}, {3, 1}} {
		for seed := range steps(12) {
			text := textFrom(0, c.length)
			all := &reader{x: newTaker(t, c.limit)}
			for step := 0; !all.x.Ended || all.x.Bytes != ""; step++ {
				if step > 200000 {
					t.Fatalf("not all of it came: %#v", all.x)
				}
				from := max(0, min(c.length, all.x.Next-8+seed.below(c.limit+16)))
				to := min(c.length, from+seed.below(41))
				all.comes(t, from, text[from:to], to == c.length)
				if seed.below(3) == 0 {
					all.reads(t, seed.below(int64(len(all.x.Bytes))+1))
				}
				if all.read+all.x.Bytes != text[:all.x.Next] {
					t.Fatalf("what came is %#v", all)
				}
			}
			if all.read != text || all.x.End != c.length || len(all.x.Parts) != 0 {
				t.Fatalf("Cap %d, %d bytes: %#v", c.limit, c.length, all)
			}
		}
	}
}

func TestPiecesInOneOrderAndTheOther(t *testing.T) {
	text := textFrom(0, 200)
	var there []int64
	for at := int64(0); at < 200; at += 17 {
		there = append(there, at)
	}
	back := slices.Clone(there)
	slices.Reverse(back)
	for _, order := range [][]int64{there, back, slices.Concat(there, there), slices.Concat(back, there), {51, 17, 187, 0, 68, 34, 119, 85, 102, 170, 153, 136}} {
		x := newTaker(t, 200)
		for _, at := range order {
			to := min(200, at+17)
			x, _ = impl.Takes(x, at, text[at:to], to == 200)
		}
		if !sameTaker(x, taker(200, text, 200, 200)) {
			t.Errorf("in the order %v: %#v", order, x)
		}
	}
}

func TestTheFirstThatCameStays(t *testing.T) {
	x := newTaker(t, 9)
	x, _ = impl.Takes(x, 2, "cde", false)
	x, _ = impl.Takes(x, 0, "ABCDEFG", false)
	if x.Bytes != "ABcdeFG" {
		t.Errorf("it is %q", x.Bytes)
	}
	if got, is := impl.Takes(x, 0, "zzzzzzz", false); is || got.Bytes != "ABcdeFG" {
		t.Errorf("it is %q, %v", got.Bytes, is)
	}
}

func TestTakenAway(t *testing.T) {
	for _, x := range rightTakers() {
		size := int64(len(x.Bytes))
		for n := range size + 1 {
			want := x
			want.Bytes = x.Bytes[n:]
			got, taken := impl.TakenAway(x, n)
			if !sameTaker(got, want) || taken != x.Bytes[:n] || !impl.TakerOk(got) || impl.LimitOf(got) != impl.LimitOf(x)+n {
				t.Fatalf("TakenAway(%d) of %#v is %#v, %q", n, x, got, taken)
			}
		}
		for _, n := range []int64{-1, size + 1, size + 2, 401, 1000000000, math.MinInt64, math.MaxInt64} {
			if got, taken := impl.TakenAway(x, n); !sameTaker(got, x) || taken != "" {
				t.Fatalf("TakenAway(%d) of %#v is %#v, %q", n, x, got, taken)
			}
		}
	}
	for _, x := range wrongTakers() {
		for _, n := range []int64{0, 1, -1, 2, int64(len(x.Bytes)), 401, math.MinInt64, math.MaxInt64} {
			if got, taken := impl.TakenAway(x, n); !sameTaker(got, impl.Taker{}) || taken != "" {
				t.Fatalf("TakenAway(%d) of %#v is %#v, %q", n, x, got, taken)
			}
		}
	}
}

func TestTakenAwayMakesRoom(t *testing.T) {
	x := taker(6, "abcdef", 6, -1)
	if got, is := impl.Takes(x, 6, "ghij", false); is || !sameTaker(got, x) {
		t.Errorf("there is no room: %#v, %v", got, is)
	}
	x, taken := impl.TakenAway(x, 4)
	if taken != "abcd" || impl.LimitOf(x) != 10 {
		t.Errorf("TakenAway is %#v, %q", x, taken)
	}
	if got, is := impl.Takes(x, 6, "ghijk", false); !is || !sameTaker(got, taker(10, "efghij", 6, -1)) {
		t.Errorf("there is room for four: %#v, %v", got, is)
	}
}

// checkOwnParts asks the three calls that answer a Taker, each with Parts that have spare room behind them.
func checkOwnParts(t *testing.T, name string, call func(x impl.Taker) impl.Taker) {
	t.Helper()
	parts := make([]impl.Part, 2, 9)
	parts[0], parts[1] = part(4, "E"), part(7, "HI")
	room := parts[:9]
	for k := 2; k < 9; k++ {
		room[k] = part(int64(k)*100, "spare")
	}
	before := slices.Clone(room)
	got := call(taker(2, "ab", 12, -1, parts...))
	if !slices.Equal(room, before) {
		t.Errorf("%s: what was given is now %v", name, room)
	}
	should := slices.Clone(got.Parts)
	for k := range room {
		room[k] = part(99, "scratched")
	}
	if !slices.Equal(got.Parts, should) {
		t.Errorf("%s: the answer is now %v", name, got.Parts)
	}
	copy(room, before)
	for k := range got.Parts[:cap(got.Parts)] {
		got.Parts[:cap(got.Parts)][k] = part(77, "scratched")
	}
	if !slices.Equal(room, before) {
		t.Errorf("%s: what was given is now %v", name, room)
	}
}

func TestTakersShareNothing(t *testing.T) {
	for _, c := range []struct {
		name  string
		at    int64
		bytes string
		end   bool
	}{
		{"a Part more", 10, "k", false},
		{"a Part between", 5, "f", false},
		{"the first hole closed", 2, "cd", false},
		{"a byte to Bytes", 2, "c", false},
		{"all to Bytes", 2, "cdefg", false},
		{"an end alone", 9, "", true},
		{"nothing new", 7, "hi", false},
		{"no place", -1, "hi", false},
		{"an end below Parts", 8, "", true},
		{"too many bytes", 2, strings.Repeat("a", 41), false},
	} {
		checkOwnParts(t, c.name, func(x impl.Taker) impl.Taker {
			got, _ := impl.Takes(x, c.at, c.bytes, c.end)
			return got
		})
	}
	for _, n := range []int64{-1, 0, 1, 2, 3} {
		checkOwnParts(t, "TakenAway", func(x impl.Taker) impl.Taker {
			got, _ := impl.TakenAway(x, n)
			return got
		})
	}
	checkOwnParts(t, "asking", func(x impl.Taker) impl.Taker {
		impl.TakerOk(x)
		impl.LimitOf(x)
		return impl.Taker{}
	})
}
