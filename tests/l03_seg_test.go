package tests

import (
	"math"
	"strings"
	"testing"

	"loop.example/g00450/impl"
)

const (
	endByte   = 14
	countByte = 15
	headBytes = 16
	sumBytes  = 2
)

func everyByte() string {
	var b strings.Builder
	for n := 0; n < 256; n++ {
		b.WriteByte(byte(n))
	}
	return b.String()
}

// lettersToTry are all right: of each number and each length some, not all with all.
func lettersToTry() []impl.Seg {
	list := []impl.Seg{{}, {End: true}, {From: 1, To: 2, Bytes: "ab", End: true, Ack: 3, Room: 9}}
	for i, m := range marksToTry() {
		end := i%2 == 0
		list = append(list, impl.Seg{From: m, End: end}, impl.Seg{To: m, Bytes: "x"}, impl.Seg{Ack: m, End: end, Bytes: "\x00"},
			impl.Seg{From: m, To: lastMark - m, Ack: m / 2, Room: m % (lastPair + 1), Bytes: "one stream", End: end})
	}
	for _, p := range pairsToTry() {
		list = append(list, impl.Seg{Room: p}, impl.Seg{Room: p, Bytes: "odd", From: lastMark})
	}
	for n := 0; n <= impl.MaxBytes; n++ {
		list = append(list, impl.Seg{Bytes: strings.Repeat("\xff", n)}, impl.Seg{Bytes: strings.Repeat("\x00", n), End: true}, impl.Seg{Bytes: everyByte()[n : 2*n], From: int64(n)})
	}
	for at := 0; at < 256; at += 32 {
		list = append(list, impl.Seg{Bytes: everyByte()[at : at+32], Room: int64(at)})
	}
	return append(list, impl.Seg{From: lastMark, To: lastMark, Ack: lastMark, Room: lastPair, End: true, Bytes: strings.Repeat("\xff", impl.MaxBytes)})
}

func noLetters() []impl.Seg {
	right := impl.Seg{From: 1, To: 2, Bytes: "ab", Ack: 3, Room: 9}
	var list []impl.Seg
	for _, m := range noMarks() {
		from, to, ack := right, right, right
		from.From, to.To, ack.Ack = m, m, m
		list = append(list, from, to, ack, impl.Seg{From: m}, impl.Seg{To: m}, impl.Seg{Ack: m}, impl.Seg{From: m, To: m, Ack: m, Room: m})
	}
	for _, p := range noPairs() {
		room := right
		room.Room = p
		list = append(list, room, impl.Seg{Room: p, End: true})
	}
	for _, n := range []int{impl.MaxBytes + 1, impl.MaxBytes + 2, 80, 255, 256, 256 + 2, 65536, 65536 + impl.MaxBytes} {
		list = append(list, impl.Seg{Bytes: strings.Repeat("a", n)}, impl.Seg{Bytes: strings.Repeat("\x00", n), End: true})
	}
	return list
}

// unsummed is what the document lists, ahead of the Sum, written by hand.
func unsummed(g impl.Seg) string {
	var b strings.Builder
	for _, m := range []int64{g.From, g.To, g.Ack} {
		b.WriteString(textOfPairs(m/(lastPair+1), m%(lastPair+1)))
	}
	b.WriteString(textOfPairs(g.Room))
	if g.End {
		b.WriteByte(1)
	} else {
		b.WriteByte(0)
	}
	b.WriteByte(byte(len(g.Bytes)))
	b.WriteString(g.Bytes)
	return b.String()
}

// summed makes the Sum right, so that only what is ahead of it can be wrong.
func summed(s string) string {
	return s + textOfPairs(sumByRest(s))
}

func changed(s string, at int, to byte) string {
	return s[:at] + string([]byte{to}) + s[at+1:]
}

func noLetterIn(t *testing.T, what string, s string) {
	t.Helper()
	if g, is := impl.ReadSeg(s); is || g != (impl.Seg{}) {
		t.Errorf("%s: ReadSeg of %.70q is %#v and %v, want none", what, s, g, is)
	}
}

func TestSegOk(t *testing.T) {
	for _, g := range lettersToTry() {
		if !impl.SegOk(g) {
			t.Errorf("SegOk says no to %#v", g)
		}
	}
	for _, g := range noLetters() {
		if impl.SegOk(g) {
			t.Errorf("SegOk says yes to %#.100v", g)
		}
	}
}

func TestSegOkAtTheEdges(t *testing.T) {
	full := strings.Repeat("b", impl.MaxBytes)
	for _, c := range []struct {
		name string
		seg  impl.Seg
		want bool
	}{
		{"the zero letter", impl.Seg{}, true},
		{"no Bytes and End", impl.Seg{End: true}, true},
		{"just MaxBytes", impl.Seg{Bytes: full}, true},
		{"one byte more", impl.Seg{Bytes: full + "b"}, false},
		{"From the last mark", impl.Seg{From: 4294967295}, true},
		{"From one more", impl.Seg{From: 4294967296}, false},
		{"From one less than 0", impl.Seg{From: -1}, false},
		{"To the last mark", impl.Seg{To: 4294967295}, true},
		{"To one more", impl.Seg{To: 4294967296}, false},
		{"To one less than 0", impl.Seg{To: -1}, false},
		{"Ack the last mark", impl.Seg{Ack: 4294967295}, true},
		{"Ack one more", impl.Seg{Ack: 4294967296}, false},
		{"Ack one less than 0", impl.Seg{Ack: -1}, false},
		{"Room 65535", impl.Seg{Room: 65535}, true},
		{"Room one more", impl.Seg{Room: 65536}, false},
		{"Room one less than 0", impl.Seg{Room: -1}, false},
		{"From ahead of To, From behind To", impl.Seg{From: 7, To: 3}, true},
	} {
		if got := impl.SegOk(c.seg); got != c.want {
			t.Errorf("%s: SegOk is %v", c.name, got)
		}
		if got := impl.ShowSeg(c.seg) != ""; got != c.want {
			t.Errorf("%s: is anything shown? %v", c.name, got)
		}
	}
	if impl.MaxBytes != 40 {
		t.Errorf("MaxBytes is %d", impl.MaxBytes)
	}
}

func TestShowSeg(t *testing.T) {
	for _, c := range []struct {
		name string
		seg  impl.Seg
		want string
	}{
		{"the zero letter", impl.Seg{}, strings.Repeat("\x00", 16) + "\xff\xff"},
		{"End alone", impl.Seg{End: true}, strings.Repeat("\x00", 14) + "\x01\x00" + "\xfe\xff"},
		{"one byte", impl.Seg{Bytes: "a"}, strings.Repeat("\x00", 15) + "\x01a" + "\x9e\xfe"},
		{"each in its place", impl.Seg{From: 0x01020304, To: 0x05060708, Ack: 0x090a0b0c, Room: 0x0d0e, End: true, Bytes: "\x11\x12\x13"},
			"\x01\x02\x03\x04\x05\x06\x07\x08\x09\x0a\x0b\x0c\x0d\x0e\x01\x03\x11\x12\x13" + "\xa9\xb2"},
		{"bytes above 127", impl.Seg{From: 0x80818283, To: 0x84858687, Ack: 0x88898a8b, Room: 0x8c8d},
			"\x80\x81\x82\x83\x84\x85\x86\x87\x88\x89\x8a\x8b\x8c\x8d\x00\x00" + "\x52\x4b"},
	} {
		if got := impl.ShowSeg(c.seg); got != c.want {
			t.Errorf("%s: ShowSeg is %q, want %q", c.name, got, c.want)
		}
	}
}

func TestShowSegHasTheBytesTheDocumentLists(t *testing.T) {
	for _, g := range lettersToTry() {
		got, want := impl.ShowSeg(g), summed(unsummed(g))
		if got != want {
			t.Errorf("ShowSeg of %#v is %q, want %q", g, got, want)
		}
		if len(got) != headBytes+len(g.Bytes)+sumBytes {
			t.Errorf("ShowSeg of %#v has %d bytes", g, len(got))
		}
	}
}

func TestShowSegRefuses(t *testing.T) {
	for _, g := range noLetters() {
		if got := impl.ShowSeg(g); got != "" {
			t.Errorf("ShowSeg of %#.100v is %.70q, want nothing", g, got)
		}
	}
}

// Promise 3.
func TestReadSegOfShowSegIsTheLetter(t *testing.T) {
	for _, g := range lettersToTry() {
		if got, is := impl.ReadSeg(impl.ShowSeg(g)); !is || got != g {
			t.Errorf("%#v is read as %#v and %v", g, got, is)
		}
	}
}

func TestReadSegOfEveryByte(t *testing.T) {
	for n := 0; n < 256; n++ {
		g := impl.Seg{From: int64(n) << 24, To: int64(n) << 16, Ack: int64(n) << 8, Room: int64(n), Bytes: string([]byte{byte(n), byte(255 - n)})}
		if got, is := impl.ReadSeg(impl.ShowSeg(g)); !is || got != g {
			t.Errorf("%#v is read as %#v and %v", g, got, is)
		}
	}
}

// Promise 3, of every byte, by every number.
func TestSpoiltIsNoLetter(t *testing.T) {
	for _, g := range lettersToTry() {
		s := impl.ShowSeg(g)
		for at := range s {
			for by := int64(1); by <= 255; by++ {
				spoilt := impl.Spoilt(s, int64(at), by)
				if got, is := impl.ReadSeg(spoilt); spoilt == s || is || got != (impl.Seg{}) {
					t.Fatalf("%#v, byte %d spoilt by %d: %q is read as %#v and %v", g, at, by, spoilt, got, is)
				}
			}
		}
	}
}

func TestReadSegOfAWrongLength(t *testing.T) {
	for _, s := range []string{"", "\x00", "a", "\xff\xff", strings.Repeat("\x00", 15), strings.Repeat("\xff", 16), strings.Repeat("\x00", 17), strings.Repeat("\xff", 70000)} {
		noLetterIn(t, "too short or too long", s)
		noLetterIn(t, "too short or too long, with its Sum", summed(s))
	}
	for _, g := range lettersToTry() {
		s := impl.ShowSeg(g)
		for n := range s {
			noLetterIn(t, "only a piece of it", s[:n])
		}
		for _, more := range []string{"\x00", "\x00\x00", "\xff\xff", "a", s} {
			noLetterIn(t, "more behind it", s+more)
		}
		ahead := unsummed(g)
		noLetterIn(t, "a byte less than it counts", summed(ahead[:len(ahead)-1]))
		noLetterIn(t, "a byte more than it counts", summed(ahead+"\x00"))
		noLetterIn(t, "two bytes more than it counts", summed(ahead+"\x00\x00"))
	}
}

// Not of every letter: of noughts a piece at the end can be a letter by itself.
func TestReadSegOfALetterMoved(t *testing.T) {
	s := impl.ShowSeg(impl.Seg{From: 0x01020304, To: 0x05060708, Ack: 0x090a0b0c, Room: 0x0d0e, End: true, Bytes: "\x11\x12\x13"})
	for n := range s {
		noLetterIn(t, "only a piece at the end", s[n+1:])
	}
	for _, more := range []string{"\x00", "\x00\x00", "\xff\xff", "a", s} {
		noLetterIn(t, "more ahead of it", more+s)
	}
}

func TestReadSegOfAWrongCount(t *testing.T) {
	for _, g := range lettersToTry() {
		ahead := unsummed(g)
		for n := 0; n < 256; n++ {
			if n != len(g.Bytes) {
				noLetterIn(t, "the count is not how many Bytes there are", summed(changed(ahead, countByte, byte(n))))
			}
		}
	}
}

func TestReadSegOfMoreThanMaxBytes(t *testing.T) {
	for _, n := range []int{impl.MaxBytes + 1, impl.MaxBytes + 2, 255} {
		noLetterIn(t, "the count is right, but above MaxBytes", summed(unsummed(impl.Seg{Bytes: strings.Repeat("a", n)})))
	}
	noLetterIn(t, "256 Bytes, counted as 0", summed(unsummed(impl.Seg{Bytes: strings.Repeat("a", 256)})))
	if _, is := impl.ReadSeg(summed(unsummed(impl.Seg{Bytes: strings.Repeat("a", impl.MaxBytes)}))); !is {
		t.Error("just MaxBytes are not read")
	}
}

func TestReadSegOfAWrongEnd(t *testing.T) {
	for _, g := range lettersToTry() {
		ahead := unsummed(g)
		for n := 0; n < 256; n++ {
			s := summed(changed(ahead, endByte, byte(n)))
			if n > 1 {
				noLetterIn(t, "End is neither 0 nor 1", s)
			} else if got, is := impl.ReadSeg(s); !is || got.End != (n == 1) {
				t.Errorf("End byte %d is read as %#v and %v", n, got, is)
			}
		}
	}
}

func TestReadSegOfEveryOtherSum(t *testing.T) {
	for _, g := range []impl.Seg{{}, {From: 1, To: 2, Bytes: "ab", End: true, Ack: 3, Room: 9}, {Bytes: "odd"}, {From: lastMark, Room: lastPair}, {From: lastPair}} {
		ahead := unsummed(g)
		right := sumByRest(ahead)
		for n := int64(0); n <= lastPair; n++ {
			if n != right {
				noLetterIn(t, "not its Sum", ahead+textOfPairs(n))
			}
		}
	}
}

// 65535 and 0 come to the same when they are added, but only one of them is what ShowSeg writes.
func TestReadSegTellsBothNoughtsApart(t *testing.T) {
	noughts := strings.Repeat("\x00", headBytes)
	if _, is := impl.ReadSeg(noughts + "\xff\xff"); !is {
		t.Error("the zero letter is not read")
	}
	noLetterIn(t, "the Sum of noughts told as 0", noughts+"\x00\x00")
	full := unsummed(impl.Seg{From: lastPair})
	if _, is := impl.ReadSeg(full + "\x00\x00"); !is {
		t.Error("a letter whose Sum is 0 is not read")
	}
	noLetterIn(t, "the Sum 0 told as 65535", full+"\xff\xff")
}

func TestSpoilt(t *testing.T) {
	for _, c := range []struct {
		name, text string
		at, by     int64
		want       string
	}{
		{"the first byte", "abc", 0, 1, "bbc"},
		{"a byte between", "abc", 1, 2, "adc"},
		{"the last byte", "abc", 2, 255, "abb"},
		{"one behind the last", "abc", 3, 1, "abc"},
		{"one ahead of the first", "abc", -1, 1, "abc"},
		{"just to 255", "\xfe", 0, 1, "\xff"},
		{"just past 255", "\xff", 0, 1, "\x00"},
		{"past 255, by all there is", "\xff", 0, 255, "\xfe"},
		{"nought, by all there is", "\x00", 0, 255, "\xff"},
		{"the next byte stays", "\x00\xff", 1, 2, "\x00\x01"},
		{"by 0", "abc", 1, 0, "abc"},
		{"by 256", "abc", 1, 256, "abc"},
		{"by 257", "abc", 1, 257, "abc"},
		{"by -1", "abc", 1, -1, "abc"},
		{"of nothing", "", 0, 1, ""},
		{"at nothing, one ahead", "", -1, 1, ""},
	} {
		if got := impl.Spoilt(c.text, c.at, c.by); got != c.want {
			t.Errorf("%s: Spoilt(%q, %d, %d) = %q, want %q", c.name, c.text, c.at, c.by, got, c.want)
		}
	}
}

func TestSpoiltOfEveryByte(t *testing.T) {
	all := everyByte()
	for at := 0; at < 256; at++ {
		for by := 1; by <= 255; by++ {
			if got, want := impl.Spoilt(all, int64(at), int64(by)), changed(all, at, byte((at+by)%256)); got != want {
				t.Fatalf("byte %d spoilt by %d is %d", at, by, got[at])
			}
		}
	}
}

func TestSpoiltAndBack(t *testing.T) {
	for _, s := range []string{"a", everyByte(), impl.ShowSeg(impl.Seg{From: 1, To: 2, Bytes: "ab", End: true, Ack: 3, Room: 9})} {
		for at := int64(0); at < int64(len(s)); at++ {
			for by := int64(1); by <= 255; by++ {
				if got := impl.Spoilt(impl.Spoilt(s, at, by), at, 256-by); got != s {
					t.Fatalf("byte %d of %.20q spoilt by %d and by %d is not as it was", at, s, by, 256-by)
				}
			}
		}
	}
}

func TestSpoiltLeavesItAsItIs(t *testing.T) {
	far := []int64{math.MinInt64, math.MinInt64 + 1, -round, -half, -256, -2, -1, half, round, round + 1, math.MaxInt64 - 1, math.MaxInt64}
	for _, s := range []string{"", "a", "abc", everyByte(), impl.ShowSeg(impl.Seg{Bytes: "ab"})} {
		long := int64(len(s))
		for _, at := range append([]int64{long, long + 1, 2*long + 1}, far...) {
			for _, by := range append([]int64{0, 1, 128, 255, 256, 257}, far...) {
				if got := impl.Spoilt(s, at, by); got != s {
					t.Errorf("Spoilt(%.20q, %d, %d) is changed", s, at, by)
				}
			}
		}
		for at := range long {
			for _, by := range append([]int64{0, 256, 257, 511, 512, 513}, far...) {
				if got := impl.Spoilt(s, at, by); got != s {
					t.Errorf("Spoilt(%.20q, %d, %d) is changed", s, at, by)
				}
			}
		}
	}
}
