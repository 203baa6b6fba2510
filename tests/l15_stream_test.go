package tests

import (
	"math"
	"slices"
	"strings"
	"testing"

	"loop.example/g00450/impl"
)

const mostText = 2000

// streamOkByWords asks one thing of the document behind the other.
func streamOkByWords(s impl.Stream) bool {
	all := int64(len(s.Text))
	if all > mostText || s.Read < 0 || s.Read > all {
		return false
	}
	if s.Seen && !(s.Ended && s.Read == all) {
		return false
	}
	return !s.Done || s.Ended
}

// A step is one of the four calls, with what it is given.
type step struct {
	name  string
	bytes string
	seen  bool
}

func grewBy(bytes string) step { return step{name: "Grew", bytes: bytes} }
func readBy(bytes string) step { return step{name: "WasRead", bytes: bytes} }
func ended() step              { return step{name: "Ended"} }
func toldEnd(seen bool) step   { return step{name: "TellEnd", seen: seen} }

func (d step) of(s impl.Stream) (impl.Stream, bool) {
	switch d.name {
	case "Grew":
		return impl.Grew(s, d.bytes)
	case "WasRead":
		return impl.WasRead(s, d.bytes)
	case "Ended":
		return impl.Ended(s)
	}
	return impl.TellEnd(s, d.seen)
}

// mayByWords is asked only of a right Stream.
func (d step) mayByWords(s impl.Stream) bool {
	left := s.Text[s.Read:]
	switch {
	case d.name == "Grew":
		return !s.Ended && len(s.Text)+len(d.bytes) <= mostText
	case d.name == "WasRead":
		return len(d.bytes) <= len(left) && left[:len(d.bytes)] == d.bytes
	case d.name == "Ended":
		return !s.Ended
	case d.seen:
		return s.Ended && left == "" && !s.Seen
	}
	return s.Ended && !s.Done
}

func (d step) byWords(s impl.Stream) (impl.Stream, bool) {
	if !streamOkByWords(s) {
		return impl.Stream{}, false
	}
	if !d.mayByWords(s) {
		return s, false
	}
	switch {
	case d.name == "Grew":
		s.Text = s.Text + d.bytes
	case d.name == "WasRead":
		s.Read = s.Read + int64(len(d.bytes))
	case d.name == "Ended":
		s.Ended = true
	case d.seen:
		s.Seen = true
	default:
		s.Done = true
	}
	return s, true
}

func checkStep(t *testing.T, s impl.Stream, d step) {
	t.Helper()
	want, may := d.byWords(s)
	if got, is := d.of(s); got != want || is != may {
		t.Fatalf("%.60v of %.60v is %.60v, %v, not %.60v, %v", d, s, got, is, want, may)
	}
}

func checkSteps(t *testing.T, s impl.Stream, list []step) {
	t.Helper()
	if got, want := impl.StreamOk(s), streamOkByWords(s); got != want {
		t.Fatalf("StreamOk of %.60v is %v", s, got)
	}
	for _, d := range list {
		checkStep(t, s, d)
	}
}

// flagged are all eight of Ended, Done and Seen.
func flagged(text string, read int64) []impl.Stream {
	var list []impl.Stream
	for flags := range 8 {
		list = append(list, impl.Stream{Text: text, Read: read, Ended: flags&1 != 0, Done: flags&2 != 0, Seen: flags&4 != 0})
	}
	return list
}

// stepsFor are all kinds of bytes that may stand in text from somewhere, and some that don't.
func stepsFor(text string) []step {
	list := []step{ended(), toldEnd(true), toldEnd(false)}
	var bytes []string
	for from := range len(text) + 1 {
		for to := from; to <= len(text); to++ {
			bytes = append(bytes, text[from:to], text[from:to]+"x", "x"+text[from:to])
		}
	}
	bytes = append(bytes, "\x00", "A", "é", text+text, textFrom(0, mostText), textFrom(0, mostText+1))
	for _, b := range bytes {
		list = append(list, grewBy(b), readBy(b))
	}
	return list
}

func shortTexts() []string {
	return []string{"", "a", "b", "aa", "ab", "aab", "abc", "aaaa", "abab", "\x00", "\x00\x00", "\xff\x00\xfe", "é", "aé", "日本", " \n", "hello"}
}

// Each short Text, with each Read in it and around it, and all flags.
func TestStreamsInEveryState(t *testing.T) {
	for _, text := range shortTexts() {
		for read := int64(-3); read <= int64(len(text))+3; read++ {
			for _, s := range flagged(text, read) {
				checkSteps(t, s, stepsFor(text))
			}
		}
	}
}

func TestStreamOkOfNamedCases(t *testing.T) {
	for _, c := range []struct {
		name string
		s    impl.Stream
		want bool
	}{
		{"nothing", impl.Stream{}, true},
		{"nothing read", impl.Stream{Text: "abc"}, true},
		{"some read", impl.Stream{Text: "abc", Read: 2}, true},
		{"all read", impl.Stream{Text: "abc", Read: 3}, true},
		{"one more read", impl.Stream{Text: "abc", Read: 4}, false},
		{"one more read than nothing", impl.Stream{Read: 1}, false},
		{"less than nothing read", impl.Stream{Text: "abc", Read: -1}, false},
		{"as many as there are letters, not bytes", impl.Stream{Text: "éé", Read: 3}, true},
		{"Ended, nothing written", impl.Stream{Ended: true}, true},
		{"Ended, nothing read", impl.Stream{Text: "abc", Ended: true}, true},
		{"Done, nothing read", impl.Stream{Text: "abc", Ended: true, Done: true}, true},
		{"Done, all read", impl.Stream{Text: "abc", Read: 3, Ended: true, Done: true}, true},
		{"Done, not Ended", impl.Stream{Done: true}, false},
		{"Done, all read, not Ended", impl.Stream{Text: "abc", Read: 3, Done: true}, false},
		{"Seen alone, all read", impl.Stream{Text: "abc", Read: 3, Ended: true, Seen: true}, true},
		{"Seen alone, nothing written", impl.Stream{Ended: true, Seen: true}, true},
		{"Seen, one not read", impl.Stream{Text: "abc", Read: 2, Ended: true, Seen: true}, false},
		{"Seen, not Ended", impl.Stream{Seen: true}, false},
		{"Seen, all read, not Ended", impl.Stream{Text: "abc", Read: 3, Seen: true}, false},
		{"both", impl.Stream{Text: "abc", Read: 3, Ended: true, Done: true, Seen: true}, true},
		{"both, nothing written", impl.Stream{Ended: true, Done: true, Seen: true}, true},
		{"both, one not read", impl.Stream{Text: "abc", Read: 2, Ended: true, Done: true, Seen: true}, false},
		{"both, not Ended", impl.Stream{Text: "abc", Read: 3, Done: true, Seen: true}, false},
		{"one byte less than MaxText", impl.Stream{Text: textFrom(0, 1999)}, true},
		{"MaxText bytes", impl.Stream{Text: textFrom(0, 2000)}, true},
		{"MaxText bytes, all read and told", impl.Stream{Text: textFrom(0, 2000), Read: 2000, Ended: true, Done: true, Seen: true}, true},
		{"MaxText bytes, one more read", impl.Stream{Text: textFrom(0, 2000), Read: 2001}, false},
		{"one byte more than MaxText", impl.Stream{Text: textFrom(0, 2001)}, false},
		{"one byte more than MaxText, all read and told", impl.Stream{Text: textFrom(0, 2001), Read: 2001, Ended: true, Done: true, Seen: true}, false},
		{"1001 letters of two bytes", impl.Stream{Text: strings.Repeat("é", 1001)}, false},
		{"1000 letters of two bytes", impl.Stream{Text: strings.Repeat("é", 1000)}, true},
	} {
		if got := impl.StreamOk(c.s); got != c.want {
			t.Errorf("%s: StreamOk is %v", c.name, got)
		}
	}
	if impl.MaxText != mostText {
		t.Errorf("MaxText is %d", impl.MaxText)
	}
}

func TestStreamAnswersOfNamedCases(t *testing.T) {
	for _, c := range []struct {
		name string
		s    impl.Stream
		d    step
		want impl.Stream
		is   bool
	}{
		{"grows from nothing", impl.Stream{}, grewBy("abc"), impl.Stream{Text: "abc"}, true},
		{"grows by nothing", impl.Stream{Text: "ab", Read: 1}, grewBy(""), impl.Stream{Text: "ab", Read: 1}, true},
		{"nothing grows by nothing", impl.Stream{}, grewBy(""), impl.Stream{}, true},
		{"grows behind what is read", impl.Stream{Text: "ab", Read: 2}, grewBy("c"), impl.Stream{Text: "abc", Read: 2}, true},
		{"grows by a byte 0", impl.Stream{Text: "a"}, grewBy("\x00\xff"), impl.Stream{Text: "a\x00\xff"}, true},
		{"grows behind the end", impl.Stream{Text: "ab", Ended: true}, grewBy("c"), impl.Stream{Text: "ab", Ended: true}, false},
		{"grows by nothing behind the end", impl.Stream{Text: "ab", Ended: true}, grewBy(""), impl.Stream{Text: "ab", Ended: true}, false},
		{"reads nothing", impl.Stream{Text: "ab", Read: 1}, readBy(""), impl.Stream{Text: "ab", Read: 1}, true},
		{"reads nothing of nothing", impl.Stream{}, readBy(""), impl.Stream{}, true},
		{"reads one of nothing", impl.Stream{}, readBy("a"), impl.Stream{}, false},
		{"reads one", impl.Stream{Text: "abc", Read: 1}, readBy("b"), impl.Stream{Text: "abc", Read: 2}, true},
		{"reads all that is left", impl.Stream{Text: "abc", Read: 1}, readBy("bc"), impl.Stream{Text: "abc", Read: 3}, true},
		{"reads one too many", impl.Stream{Text: "abc", Read: 1}, readBy("bcd"), impl.Stream{Text: "abc", Read: 1}, false},
		{"reads once more what was read", impl.Stream{Text: "abc", Read: 1}, readBy("a"), impl.Stream{Text: "abc", Read: 1}, false},
		{"reads what stands further on", impl.Stream{Text: "abc", Read: 1}, readBy("c"), impl.Stream{Text: "abc", Read: 1}, false},
		{"the first byte differs", impl.Stream{Text: "abc", Read: 1}, readBy("xc"), impl.Stream{Text: "abc", Read: 1}, false},
		{"the last byte differs", impl.Stream{Text: "abc", Read: 1}, readBy("bx"), impl.Stream{Text: "abc", Read: 1}, false},
		{"large and small letters", impl.Stream{Text: "abc", Read: 1}, readBy("B"), impl.Stream{Text: "abc", Read: 1}, false},
		{"reads half a letter", impl.Stream{Text: "é"}, readBy("\xc3"), impl.Stream{Text: "é", Read: 1}, true},
		{"reads the other half", impl.Stream{Text: "é", Read: 1}, readBy("\xa9"), impl.Stream{Text: "é", Read: 2}, true},
		{"reads behind the end", impl.Stream{Text: "ab", Ended: true, Done: true}, readBy("ab"), impl.Stream{Text: "ab", Read: 2, Ended: true, Done: true}, true},
		{"reads nothing once told", impl.Stream{Text: "a", Read: 1, Ended: true, Seen: true}, readBy(""), impl.Stream{Text: "a", Read: 1, Ended: true, Seen: true}, true},
		{"reads one once told", impl.Stream{Text: "a", Read: 1, Ended: true, Seen: true}, readBy("a"), impl.Stream{Text: "a", Read: 1, Ended: true, Seen: true}, false},
		{"ends", impl.Stream{Text: "ab", Read: 1}, ended(), impl.Stream{Text: "ab", Read: 1, Ended: true}, true},
		{"ends, nothing written", impl.Stream{}, ended(), impl.Stream{Ended: true}, true},
		{"ends again", impl.Stream{Text: "ab", Ended: true}, ended(), impl.Stream{Text: "ab", Ended: true}, false},
		{"ends once told", impl.Stream{Ended: true, Done: true, Seen: true}, ended(), impl.Stream{Ended: true, Done: true, Seen: true}, false},
		{"Seen, not Ended", impl.Stream{Text: "a", Read: 1}, toldEnd(true), impl.Stream{Text: "a", Read: 1}, false},
		{"Seen, one not read", impl.Stream{Text: "a", Ended: true}, toldEnd(true), impl.Stream{Text: "a", Ended: true}, false},
		{"Seen, one not read, Done", impl.Stream{Text: "a", Ended: true, Done: true}, toldEnd(true), impl.Stream{Text: "a", Ended: true, Done: true}, false},
		{"Seen, all read", impl.Stream{Text: "a", Read: 1, Ended: true}, toldEnd(true), impl.Stream{Text: "a", Read: 1, Ended: true, Seen: true}, true},
		{"Seen behind Done", impl.Stream{Ended: true, Done: true}, toldEnd(true), impl.Stream{Ended: true, Done: true, Seen: true}, true},
		{"Seen again", impl.Stream{Ended: true, Seen: true}, toldEnd(true), impl.Stream{Ended: true, Seen: true}, false},
		{"Done, not Ended", impl.Stream{Text: "a", Read: 1}, toldEnd(false), impl.Stream{Text: "a", Read: 1}, false},
		{"Done, nothing read", impl.Stream{Text: "a", Ended: true}, toldEnd(false), impl.Stream{Text: "a", Ended: true, Done: true}, true},
		{"Done, all read", impl.Stream{Text: "a", Read: 1, Ended: true}, toldEnd(false), impl.Stream{Text: "a", Read: 1, Ended: true, Done: true}, true},
		{"Done behind Seen", impl.Stream{Ended: true, Seen: true}, toldEnd(false), impl.Stream{Ended: true, Done: true, Seen: true}, true},
		{"Done again", impl.Stream{Text: "a", Ended: true, Done: true}, toldEnd(false), impl.Stream{Text: "a", Ended: true, Done: true}, false},
	} {
		if got, is := c.d.of(c.s); got != c.want || is != c.is {
			t.Errorf("%s: %v, %v", c.name, got, is)
		}
	}
}

// Texts at MaxText and around it, with each room that is left asked for, one less and one more.
func TestStreamsAtMaxText(t *testing.T) {
	for _, long := range []int64{0, 1, 1000, 1959, 1960, 1998, 1999, 2000, 2001, 2002, 4000} {
		text := textFrom(0, long)
		for _, read := range []int64{-1, 0, 1, long / 2, long - 1, long, long + 1, 2000, 2001} {
			list := []step{ended(), toldEnd(true), toldEnd(false), readBy(""), readBy(text), grewBy("")}
			for room := mostText - long - 2; room <= mostText-long+2; room++ {
				if room >= 0 {
					list = append(list, grewBy(textFrom(long, room)))
				}
			}
			if isBetween(read, 0, long) {
				list = append(list, readBy(text[read:]), readBy(text[read:]+"x"), readBy(text[:read]))
			}
			for _, s := range flagged(text, read) {
				checkSteps(t, s, list)
			}
		}
	}
}

func TestGrewUpToMaxText(t *testing.T) {
	s := impl.Stream{}
	for n := range int64(mostText) {
		grown, is := impl.Grew(s, textFrom(n, 1))
		if !is || grown != (impl.Stream{Text: textFrom(0, n+1)}) {
			t.Fatalf("at %d: %v, %v", n, grown, is)
		}
		s = grown
	}
	for n := range int64(3) {
		if got, is := impl.Grew(s, textFrom(0, n)); got != s || is != (n == 0) {
			t.Fatalf("a full one grew by %d: %v", n, is)
		}
	}
}

// spoiltAt has another byte at k.
func spoiltAt(text string, k int) string {
	b := []byte(text)
	b[k]++
	return string(b)
}

// One byte differs, wherever it stands.
func TestWasReadOfOtherBytes(t *testing.T) {
	text := everyByte()
	for _, read := range []int{0, 1, 100, 255} {
		s := impl.Stream{Text: text, Read: int64(read)}
		left := text[read:]
		for k := range left {
			if got, is := impl.WasRead(s, spoiltAt(left, k)); is || got != s {
				t.Fatalf("read, but byte %d of %q differs", k, left)
			}
			if got, is := impl.WasRead(s, spoiltAt(left[:k+1], k)); is || got != s {
				t.Fatalf("read, but the last byte of %q differs", left[:k+1])
			}
			got, is := impl.WasRead(s, left[:k+1])
			if s.Read += int64(k + 1); !is || got != s {
				t.Fatalf("%d bytes are not read: %v", k+1, got)
			}
			s.Read = int64(read)
		}
	}
}

// wrongStreams are of each kind.
func wrongStreams() []impl.Stream {
	var list []impl.Stream
	for _, text := range append(shortTexts(), textFrom(0, 1999), textFrom(0, 2000), textFrom(0, 2001), textFrom(0, 5000)) {
		all := int64(len(text))
		for _, read := range []int64{math.MinInt64, math.MinInt64 + 1, -round, -1, 0, all - 1, all, all + 1, 2000, 2001, 2002, 255, 256, 65536, math.MaxInt32, round, round + all, math.MaxInt64 - 1, math.MaxInt64} {
			for _, s := range flagged(text, read) {
				if !streamOkByWords(s) {
					list = append(list, s)
				}
			}
		}
	}
	return list
}

func TestWrongStreams(t *testing.T) {
	wrong := wrongStreams()
	if len(wrong) < 1000 {
		t.Fatalf("only %d", len(wrong))
	}
	for _, s := range wrong {
		if impl.StreamOk(s) {
			t.Fatalf("StreamOk of %.60v", s)
		}
		for _, d := range []step{grewBy(""), grewBy("a"), grewBy(textFrom(0, 2001)), readBy(""), readBy("a"), readBy(s.Text), ended(), toldEnd(true), toldEnd(false)} {
			if got, is := d.of(s); is || got != (impl.Stream{}) {
				t.Fatalf("%.60v of the wrong %.60v is %.60v, %v", d, s, got, is)
			}
		}
	}
}

// A pen holds what the test itself wrote and read, apart from the Stream.
type pen struct {
	written, read     string
	ended, done, seen bool
}

func (p *pen) stands(t *testing.T, s impl.Stream) {
	t.Helper()
	want := impl.Stream{Text: p.written, Read: int64(len(p.read)), Ended: p.ended, Done: p.done, Seen: p.seen}
	if s != want || !impl.StreamOk(s) {
		t.Fatalf("it is %.60v, not %.60v", s, want)
	}
	if s.Text[:s.Read] != p.read || !strings.HasPrefix(p.written, p.read) {
		t.Fatalf("read was %.60q, written %.60q", p.read, p.written)
	}
}

// takes writes down what was done.
func (p *pen) takes(d step, is bool) {
	switch {
	case !is:
	case d.name == "Grew":
		p.written += d.bytes
	case d.name == "WasRead":
		p.read += d.bytes
	case d.name == "Ended":
		p.ended = true
	case d.seen:
		p.seen = true
	default:
		p.done = true
	}
}

func (p *pen) may(d step) bool {
	switch {
	case d.name == "Grew":
		return !p.ended && len(p.written)+len(d.bytes) <= mostText
	case d.name == "WasRead":
		return strings.HasPrefix(p.written, p.read+d.bytes)
	case d.name == "Ended":
		return !p.ended
	case d.seen:
		return p.ended && p.read == p.written && !p.seen
	}
	return p.ended && !p.done
}

// someStep is often one that may be; the greater seldom is, the later comes the end.
func (p *pen) someStep(seed *steps, most, seldom int64) step {
	left := p.written[len(p.read):]
	switch k := seed.below(10 + seldom); {
	case k < 3:
		return grewBy(textFrom(seed.below(1000), seed.below(most+1)))
	case k < 6:
		return readBy(left[:min(int64(len(left)), seed.below(most+1))])
	case k < 7:
		return readBy(left)
	case k < 8:
		return readBy(left + "x")
	case k < 9 && left != "":
		return readBy(spoiltAt(left, int(seed.below(int64(len(left))))))
	case k < 10:
		return toldEnd(seed.below(2) == 0)
	case k == 10:
		return ended()
	}
	return readBy(someBytes(seed))
}

func (p *pen) does(t *testing.T, s impl.Stream, d step) impl.Stream {
	t.Helper()
	may := p.may(d)
	got, is := d.of(s)
	if is != may {
		t.Fatalf("%.60v of %.60v is %v", d, s, is)
	}
	p.takes(d, is)
	p.stands(t, got)
	return got
}

func TestStreamsFromNothingToTheirEnd(t *testing.T) {
	for _, most := range []int64{1, 2, 7, 40, 400, 1999, 2000} {
		for _, seldom := range []int64{1, 5, 60} {
			for start := range int64(12) {
				seed := steps(start*100 + most + seldom)
				p, s := &pen{}, impl.Stream{}
				for k := 0; !s.Ended || !s.Done || !s.Seen; k++ {
					if k > 100000 {
						t.Fatalf("it never ends: %.60v", s)
					}
					s = p.does(t, s, p.someStep(&seed, most, seldom))
				}
				if p.read != p.written {
					t.Fatalf("at the end was read %.60q of %.60q", p.read, p.written)
				}
				last := s
				for range 20 {
					if s = p.does(t, s, p.someStep(&seed, most, seldom)); s != last {
						t.Fatalf("behind the end it is %.60v", s)
					}
				}
			}
		}
	}
}

// The same ones in every order in which they may come.
func TestStreamsInEveryOrder(t *testing.T) {
	all := []step{grewBy("ab"), grewBy("c"), readBy("a"), readBy("bc"), ended(), toldEnd(true), toldEnd(false)}
	var ways int
	var goOn func(s impl.Stream, p pen, left []step)
	goOn = func(s impl.Stream, p pen, left []step) {
		p.stands(t, s)
		if len(left) == 0 {
			ways++
			if s != (impl.Stream{Text: "abc", Read: 3, Ended: true, Done: true, Seen: true}) {
				t.Fatalf("it ends as %v", s)
			}
		}
		for k, d := range left {
			may := p.may(d)
			got, is := d.of(s)
			if is != may || !is && got != s {
				t.Fatalf("%v of %v is %v, %v", d, s, got, is)
			}
			if is {
				next := p
				next.takes(d, is)
				goOn(got, next, slices.Concat(left[:k], left[k+1:]))
			}
		}
	}
	goOn(impl.Stream{}, pen{}, all)
	if ways < 10 {
		t.Fatalf("only %d orders", ways)
	}
}

func TestNothingPanicsOutOfAStream(t *testing.T) {
	seed := steps(15)
	for range 60000 {
		text := someBytes(&seed)
		if seed.below(20) == 0 {
			text = textFrom(0, 1990+seed.below(20))
		}
		read := someNumber(&seed)
		if seed.below(2) == 0 {
			read = seed.below(int64(len(text)) + 2)
		}
		s := flagged(text, read)[seed.below(8)]
		list := []step{ended(), toldEnd(true), toldEnd(false), grewBy(someBytes(&seed)), readBy(someBytes(&seed))}
		if isBetween(read, 0, int64(len(text))) {
			list = append(list, readBy(text[read:]), readBy(text[read:min(int64(len(text)), read+3)]))
		}
		checkSteps(t, s, list)
	}
}
