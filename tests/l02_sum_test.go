package tests

import (
	"math"
	"strings"
	"testing"

	"loop.example/g00450/impl"
)

const lastPair = 65535

func noPairs() []int64 {
	return []int64{-1, -2, -256, -lastPair, -lastPair - 1, lastPair + 1, lastPair + 2, 2 * lastPair, half, round, math.MinInt64, math.MinInt64 + 1, math.MaxInt64 - 1, math.MaxInt64}
}

func pairsToTry() []int64 {
	return []int64{0, 1, 2, 127, 128, 255, 256, 257, 511, 32767, 32768, 65279, 65280, 65534, lastPair}
}

func textOfPairs(pairs ...int64) string {
	var b strings.Builder
	for _, p := range pairs {
		b.WriteByte(byte(p / 256))
		b.WriteByte(byte(p % 256))
	}
	return b.String()
}

// sumByRest works Sum out another way: adding what is above to what is below keeps the rest by 65535, and makes 0 of 0 alone.
func sumByRest(s string) int64 {
	total := int64(0)
	for i := 0; i < len(s); i++ {
		if i%2 == 0 {
			total += 256 * int64(s[i])
		} else {
			total += int64(s[i])
		}
	}
	if total == 0 {
		return lastPair
	}
	return lastPair - 1 - (total-1)%lastPair
}

func textsToTry() []string {
	list := []string{"", "\x00", "\x01", "\xff", "\x00\x00", "\x00\x00\x00", "a", "ab", "abc", "porters", "many roads, one stream",
		strings.Repeat("\x00", 4000), strings.Repeat("\xff", 4000), strings.Repeat("\xff", 4001), strings.Repeat("\x7f\x80", 777) + "\x01"}
	for _, a := range pairsToTry() {
		list = append(list, textOfPairs(a))
		for _, b := range pairsToTry() {
			list = append(list, textOfPairs(a, b), textOfPairs(a, b)+"\x09", textOfPairs(a, b, lastPair, 1))
		}
	}
	return list
}

func TestSum(t *testing.T) {
	for _, c := range []struct {
		name, text string
		want       int64
	}{
		{"nothing", "", 65535},
		{"one byte alone", "\x01", 65535 - 256},
		{"one byte alone, the highest", "\xff", 65535 - 65280},
		{"one byte alone, nought", "\x00", 65535},
		{"noughts alone, even", "\x00\x00\x00\x00", 65535},
		{"noughts alone, odd", "\x00\x00\x00", 65535},
		{"two bytes", "\x01\x02", 65535 - 258},
		{"three bytes", "\x01\x02\x03", 64509},
		{"four bytes", "\x01\x02\x03\x04", 65535 - 258 - 772},
		{"bytes above 127", "\x80\x81", 65535 - 128*256 - 129},
		{"just 65535, by one", "\xff\xff", 0},
		{"just 65535, by two", textOfPairs(65534, 1), 0},
		{"just 65535, a byte alone", "\x00\xff\xff", 0},
		{"one more than 65535", textOfPairs(65535, 1), 65534},
		{"65536, by a byte alone", "\xff\x00\x01", 65534},
		{"twice 65535", textOfPairs(65535, 65535), 0},
		{"above added more than once", textOfPairs(65535, 65535, 1), 65534},
		{"above added more than once, a byte alone", textOfPairs(65535, 65535) + "\x01", 65535 - 256},
		{"as long as a letter can be", strings.Repeat("\xff", 56), 0},
		{"long", strings.Repeat("\xff\xff", 70000), 0},
		{"long, and above is more than 65535", strings.Repeat("\xff\xff", 70000) + "\x00\x02", 65533},
		{"long, and odd", strings.Repeat("\xff\xff", 70000) + "\x02", 65535 - 512},
	} {
		if got := impl.Sum(c.text); got != c.want {
			t.Errorf("%s: Sum is %d, want %d", c.name, got, c.want)
		}
	}
}

func TestSumWorkedOutAnotherWay(t *testing.T) {
	for _, text := range textsToTry() {
		if got, want := impl.Sum(text), sumByRest(text); got != want {
			t.Errorf("Sum of %d bytes, %.20q, is %d, want %d", len(text), text, got, want)
		}
	}
}

func TestSumOfEveryPair(t *testing.T) {
	for pair := int64(0); pair <= lastPair; pair++ {
		if got := impl.Sum(textOfPairs(pair)); got != lastPair-pair {
			t.Fatalf("Sum of the number %d is %d", pair, got)
		}
	}
}

// Promise 2: the order of pairs does not matter; that of the two bytes of a pair does.
func TestSumOfPairsInAnotherOrder(t *testing.T) {
	for _, a := range pairsToTry() {
		for _, b := range pairsToTry() {
			for _, c := range pairsToTry() {
				want := impl.Sum(textOfPairs(a, b, c))
				for _, other := range []string{textOfPairs(a, c, b), textOfPairs(b, a, c), textOfPairs(b, c, a), textOfPairs(c, a, b), textOfPairs(c, b, a)} {
					if got := impl.Sum(other); got != want {
						t.Fatalf("Sum of %d, %d, %d is %d, in another order %d", a, b, c, want, got)
					}
				}
			}
		}
	}
	if impl.Sum("ab") == impl.Sum("ba") {
		t.Error("the two bytes of a pair count the same")
	}
	if impl.Sum("abcdx") != impl.Sum("cdabx") {
		t.Error("pairs ahead of a byte alone do not count the same")
	}
}

func TestRight(t *testing.T) {
	for _, text := range textsToTry() {
		sum := impl.Sum(text)
		if sum < 0 || sum > lastPair {
			t.Errorf("Sum of %.20q is %d", text, sum)
		}
		if !impl.Right(text, sum) {
			t.Errorf("Right(%.20q, %d) says no to its Sum", text, sum)
		}
		for _, other := range append(append(pairsToTry(), noPairs()...), sum-1, sum+1, sum+lastPair, sum-lastPair, sum+lastPair+1, sum-lastPair-1, sum+round, -sum-1) {
			if other != sum && impl.Right(text, other) {
				t.Errorf("Right(%.20q, %d) says yes, Sum is %d", text, other, sum)
			}
		}
	}
}

// 0 and 65535 are the same in this way of adding, but not the same Sum.
func TestRightTellsBothNoughtsApart(t *testing.T) {
	if !impl.Right("", 65535) || impl.Right("", 0) || !impl.Right("\x00\x00", 65535) || impl.Right("\x00\x00", 0) {
		t.Error("of noughts alone 65535 is right, and 0 is not")
	}
	if !impl.Right("\xff\xff", 0) || impl.Right("\xff\xff", 65535) {
		t.Error("of 65535 alone 0 is right, and 65535 is not")
	}
}

func TestRightOfEveryNumber(t *testing.T) {
	const text = "one stream!"
	sum := impl.Sum(text)
	for n := int64(-3); n <= lastPair+3; n++ {
		if impl.Right(text, n) != (n == sum) {
			t.Fatalf("Right(%q, %d) where Sum is %d", text, n, sum)
		}
	}
}

func TestTurned(t *testing.T) {
	for _, c := range []struct{ sum, was, now, want int64 }{
		{64509, 258, 259, 64508},
		{64509, 259, 258, 64510},
		{64509, 258, 258, 64509},
		{0, 0, 0, 0},
		{0, 0, 1, 65534},
		{0, 0, 65535, 0},
		{0, 1, 0, 1},
		{0, 65535, 0, 0},
		{0, 65535, 65535, 0},
		{0, 65535, 1, 65534},
		{65535, 0, 0, 0},
		{65535, 0, 1, 65534},
		{65535, 0, 65535, 0},
		{65535, 65535, 0, 65535},
		{65535, 65535, 65535, 0},
		{65535, 65535, 1, 65534},
		{65534, 1, 0, 0},
		{65534, 1, 1, 65534},
		{65534, 1, 65535, 0},
	} {
		if got := impl.Turned(c.sum, c.was, c.now); got != c.want {
			t.Errorf("Turned(%d, %d, %d) = %d, want %d", c.sum, c.was, c.now, got, c.want)
		}
	}
}

// Promise 2.
func TestTurnedIsSumOfTheTurnedText(t *testing.T) {
	for _, was := range pairsToTry() {
		for _, now := range pairsToTry() {
			for _, a := range pairsToTry() {
				for _, b := range pairsToTry() {
					if a == 0 && b == 0 && now == 0 {
						continue
					}
					sum := impl.Sum(textOfPairs(a, was, b))
					want := impl.Sum(textOfPairs(a, now, b))
					if got := impl.Turned(sum, was, now); got != want {
						t.Fatalf("Turned(%d, %d, %d) = %d, but Sum of %d, %d, %d is %d", sum, was, now, got, a, now, b, want)
					}
				}
			}
		}
	}
}

// Promise 2, for each number of a text, one after the other, the byte alone at the end too.
func TestTurnedAlongAText(t *testing.T) {
	text := []byte("three hops, two porters, one stream")
	sum := impl.Sum(string(text))
	for at := 0; at < len(text); at += 2 {
		was, now := int64(text[at])*256, int64(at*5%256)*256
		text[at] = byte(at * 5)
		if at+1 < len(text) {
			was, now = was+int64(text[at+1]), now+int64(at*11%256)
			text[at+1] = byte(at * 11)
		}
		sum = impl.Turned(sum, was, now)
		if want := impl.Sum(string(text)); sum != want {
			t.Fatalf("turned at %d: %d, want %d", at, sum, want)
		}
	}
}

// Where only noughts are left, Turned tells 0 and Sum 65535.
func TestTurnedIntoNoughtsAlone(t *testing.T) {
	for was := int64(0); was <= lastPair; was++ {
		sum := impl.Sum(textOfPairs(0, was))
		if got := impl.Turned(sum, was, 0); got != 0 {
			t.Fatalf("Turned(%d, %d, 0) = %d, want 0", sum, was, got)
		}
	}
	if got := impl.Sum(textOfPairs(0, 0)); got != lastPair {
		t.Errorf("Sum of noughts alone is %d", got)
	}
}

func TestTurnedRefuses(t *testing.T) {
	refused := func(sum, was, now int64) {
		t.Helper()
		if got := impl.Turned(sum, was, now); got != -1 {
			t.Errorf("Turned(%d, %d, %d) = %d, want -1", sum, was, now, got)
		}
	}
	for _, wrong := range noPairs() {
		for _, a := range append(pairsToTry(), noPairs()...) {
			for _, b := range append(pairsToTry(), noPairs()...) {
				refused(wrong, a, b)
				refused(a, wrong, b)
				refused(a, b, wrong)
			}
		}
	}
}
