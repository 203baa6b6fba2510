package tests

import (
	"fmt"
	"regexp"
	"slices"
	"strconv"
	"strings"
	"sync"
	"testing"

	"loop.example/g00450/impl"
)

const (
	mostBench = 8000
	mostLines = 150
)

// A hand carries a World beside the bench, by the chapters' own functions.
type hand struct {
	w impl.World
}

func newHand() *hand {
	w, _ := impl.NewWorld([]int64{20, 10, 10, 10, 10, 20}, 2)
	return &hand{w}
}

func (h *hand) does(a impl.Act, answer func(was, now impl.Stream) string) string {
	was := h.w.Stream
	now, is := impl.Happen(h.w, a)
	if !is {
		return "error"
	}
	h.w = now
	return answer(was, now.Stream)
}

func answersOk(was, now impl.Stream) string { return "ok" }

func answersTook(was, now impl.Stream) string {
	return strconv.Itoa(len(now.Text) - len(was.Text))
}

func answersRead(was, now impl.Stream) string {
	if now.Read == was.Read {
		return "-"
	}
	return now.Text[was.Read:now.Read]
}

func (h *hand) ends() string {
	e := impl.EndsOf(h.w.Line)
	return fmt.Sprintf("%d %d %d %d %d %d", e[0], e[1], e[2], e[3], e[4], e[5])
}

func (h *hand) stream() string {
	s := h.w.Stream
	return yesOrNo(s.Ended) + yesOrNo(s.Done) + yesOrNo(s.Seen)
}

func (h *hand) calms(read bool) string {
	h.w = impl.Calm(h.w, read)
	return fmt.Sprint(h.w.Stream.Read)
}

func yesOrNo(is bool) string {
	return map[bool]string{true: "y", false: "n"}[is]
}

// A lineForm is a line of the document's table, number by number, and what a hand does of it.
type lineForm struct {
	form  *regexp.Regexp
	tells func(h *hand, n []int64) string
}

func formOf(word string, numbers int, tells func(h *hand, n []int64) string) lineForm {
	return lineForm{regexp.MustCompile(`\A` + word + strings.Repeat(` (0|-?[1-9][0-9]{0,8})`, numbers) + `\z`), tells}
}

func actForm(word string, numbers int, act func(n []int64) impl.Act) lineForm {
	return formOf(word, numbers, func(h *hand, n []int64) string { return h.does(act(n), answersOk) })
}

var lineForms = []lineForm{
	actForm("end", 0, func(n []int64) impl.Act { return endAct() }),
	actForm("look", 0, func(n []int64) impl.Act { return lookAct() }),
	actForm("send", 4, func(n []int64) impl.Act { return sendAct(n[0], n[1], n[2], n[3]) }),
	actForm("tell", 2, func(n []int64) impl.Act { return tellAct(n[0], n[1]) }),
	actForm("come", 2, func(n []int64) impl.Act { return comeAct(n[0], n[1]) }),
	actForm("lose", 2, func(n []int64) impl.Act { return loseAct(n[0], n[1]) }),
	actForm("twice", 2, func(n []int64) impl.Act { return twiceAct(n[0], n[1]) }),
	actForm("pump", 2, func(n []int64) impl.Act { return pumpAct(n[0], n[1]) }),
	actForm("turn", 2, func(n []int64) impl.Act { return turnAct(n[0], n[1]) }),
	formOf("read", 1, func(h *hand, n []int64) string { return h.does(readAct(n[0]), answersRead) }),
	formOf("calm", 1, func(h *hand, n []int64) string { return h.calms(n[0] == 1) }),
	formOf("under", 0, func(h *hand, n []int64) string { return fmt.Sprint(impl.UnderWay(h.w)) }),
	formOf("ends", 0, func(h *hand, n []int64) string { return h.ends() }),
	formOf("stream", 0, func(h *hand, n []int64) string { return h.stream() }),
	formOf("linked", 0, func(h *hand, n []int64) string { return yesOrNo(impl.Linked(h.w.Line)) }),
}

func (h *hand) answers(line string) string {
	if text, is := strings.CutPrefix(line, "write "); is {
		return h.does(writeAct(text), answersTook)
	}
	for _, f := range lineForms {
		if found := f.form.FindStringSubmatch(line); found != nil {
			var n []int64
			for _, word := range found[1:] {
				one, _ := strconv.Atoi(word)
				n = append(n, int64(one))
			}
			return f.tells(h, n)
		}
	}
	return "error"
}

// benchByHand has an answer a line, for those that have a byte.
func benchByHand(text string) string {
	count := 0
	for range strings.Lines(text) {
		count++
	}
	if len(text) > mostBench || count > mostLines {
		return ""
	}
	h, told := newHand(), ""
	for line := range strings.Lines(text) {
		if line = strings.TrimSuffix(line, "\n"); line != "" {
			told += h.answers(line) + "\n"
		}
	}
	return told
}

func checkBench(t *testing.T, name, text, want string) {
	t.Helper()
	if got := impl.Bench(text); got != want {
		t.Fatalf("%s: Bench(%q) is %q, not %q", name, text, got, want)
	}
}

func checkByHand(t *testing.T, name, text string) {
	t.Helper()
	checkBench(t, name, text, benchByHand(text))
}

func linesOf(list []string) string {
	if len(list) == 0 {
		return ""
	}
	return strings.Join(list, "\n") + "\n"
}

// checkLines is given a line and its answer by turns; the hand must tell the same.
func checkLines(t *testing.T, name string, linesAndAnswers ...string) {
	t.Helper()
	var lines, answers []string
	for k := 0; k < len(linesAndAnswers); k += 2 {
		lines, answers = append(lines, linesAndAnswers[k]), append(answers, linesAndAnswers[k+1])
	}
	checkBench(t, name, linesOf(lines), linesOf(answers))
	checkBench(t, name+", the last byte lacks", strings.Join(lines, "\n"), linesOf(answers))
	checkByHand(t, name, linesOf(lines))
}

func TestLimitsOfABench(t *testing.T) {
	if impl.MaxBench != mostBench || impl.MaxLines != mostLines {
		t.Errorf("MaxBench is %d, MaxLines is %d", impl.MaxBench, impl.MaxLines)
	}
}

// All rows of the table, on the way of five bytes and of four.
func TestTheWholeWayByLines(t *testing.T) {
	checkLines(t, "the whole way",
		"under", "0", "ends", "0 0 0 0 0 0", "stream", "nnn", "linked", "y",
		"write hello all", "9", "under", "9", "ends", "9 0 0 0 0 0",
		"send 0 0 0 5", "error", "tell 0 0", "ok", "come 0 0", "ok", "send 0 0 0 5", "ok", "send 0 0 0 5", "ok", "lose 0 0", "ok", "twice 0 0", "ok",
		"come 0 1", "ok", "come 0 0", "ok", "come 0 0", "error", "ends", "9 5 0 0 0 0",
		"pump 0 3", "ok", "ends", "9 5 3 0 0 0", "pump 0 400", "ok", "pump 0 400", "error", "linked", "y",
		"turn 0 0", "ok", "tell 1 0", "error", "tell 1 1", "ok", "come 1 0", "ok", "send 1 1 0 40", "ok", "turn 1 2", "ok", "come 1 0", "error", "turn 1 1", "ok", "come 1 0", "ok",
		"ends", "9 5 5 5 0 0", "pump 1 4", "ok", "tell 2 0", "ok", "come 2 0", "ok", "send 2 0 0 40", "ok", "come 2 0", "ok", "ends", "9 5 5 5 4 4",
		"read 2", "he", "under", "7", "read 9", "ll", "read 9", "error", "under", "5", "stream", "nnn",
		"calm 0", "4", "under", "5", "ends", "9 9 9 9 9 9", "calm 1", "9", "under", "0", "calm 0", "9",
		"end", "ok", "end", "error", "write x", "error", "stream", "ynn", "look", "error",
		"calm 0", "9", "stream", "yyn", "look", "error", "read 1", "-", "stream", "yyy", "read 1", "error", "linked", "y")
}

// The end alone, letter by letter: only once the reader's desk has it the writer is told, and looks.
func TestTheEndByLines(t *testing.T) {
	lines := []string{"look", "error", "end", "ok", "look", "error", "stream", "ynn"}
	for _, hop := range []string{"0", "1", "2"} {
		lines = append(lines, "send "+hop+" 0 0 40", "ok", "come "+hop+" 0", "ok", "look", "error")
		if hop != "2" {
			lines = append(lines, "pump "+hop+" 0", "ok", "pump "+hop+" 0", "error")
		}
	}
	for _, hop := range []string{"2", "1", "0"} {
		lines = append(lines, "look", "error", "tell "+hop+" 0", "ok", "come "+hop+" 0", "ok")
	}
	checkLines(t, "the writer looks first", append(slices.Clone(lines), "stream", "ynn", "look", "ok", "stream", "yyn", "look", "error", "read 0", "-", "stream", "yyy", "read 0", "error")...)
	checkLines(t, "the reader reads first", append(slices.Clone(lines), "read 999999999", "-", "stream", "yny", "read 9", "error", "look", "ok", "stream", "yyy", "look", "error")...)
}

func TestWritingByLines(t *testing.T) {
	checkLines(t, "as many as go in", "write 0123456789abcdefghi", "19", "write jk", "1", "write k", "error", "ends", "20 0 0 0 0 0", "under", "20")
	checkLines(t, "all that go in at once", "write 0123456789abcdefghij", "20", "write k", "error")
	checkLines(t, "one more than go in", "write 0123456789abcdefghijk", "20", "calm 1", "20", "write k", "1", "under", "1")
	checkLines(t, "nothing", "write", "error", "write ", "error", "under", "0", "stream", "nnn")
	checkLines(t, "behind the end", "end", "ok", "write x", "error", "under", "0", "stream", "ynn")
	checkLines(t, "blanks alone", "write  ", "1", "write   ", "2", "under", "3", "calm 0", "0", "read 9", "   ")
	checkLines(t, "nobody reads", "write 0123456789abcdefghij", "20", "calm 0", "0", "write 0123456789abcdefghij", "20", "calm 0", "0", "write 0123456789abcdefghij", "20", "calm 0", "0",
		"write 0123456789abcdefghij", "20", "calm 0", "0", "under", "80", "write x", "error", "ends", "80 60 50 40 30 20", "read 1", "0", "calm 0", "1", "write xy", "1", "under", "80")
}

func TestWritingAnyTextByLines(t *testing.T) {
	for _, text := range []string{"x", " ", "  x ", "x  y  ", "end", "write x", "write ", "read 5", "0", "-", "-1", "\r", "x\r", "\t", "\x00", "\x00\xff", "\xff\xfe", "é", "\u2028", "error", "ok", " \x0b\x0c", "a\"b\\n"} {
		size := strconv.Itoa(len(text))
		checkLines(t, "the text "+text, "write "+text, size, "under", size, "calm 0", "0", "read 20", text, "under", "0", "write "+text, size, "calm 1", strconv.Itoa(2*len(text)))
	}
	for b := range 256 {
		if text := string([]byte{byte(b)}); text != "\n" {
			checkLines(t, "one byte", "write "+text, "1", "write a"+text+"b", "3", "calm 0", "0", "read 9", text+"a"+text+"b")
		}
	}
}

func TestLettersByLines(t *testing.T) {
	two := []string{"write abcd", "4", "tell 0 0", "ok", "come 0 0", "ok", "send 0 0 0 2", "ok", "send 0 0 2 2", "ok"}
	for _, c := range [][]string{
		{"lose 0 1", "ok", "ends", "4 0 0 0 0 0", "come 0 0", "ok", "come 0 0", "error", "ends", "4 2 0 0 0 0"},
		{"lose 0 0", "ok", "ends", "4 0 0 0 0 0", "come 0 0", "ok", "come 0 0", "error", "ends", "4 0 0 0 0 0", "send 0 0 0 3", "ok", "come 0 0", "ok", "ends", "4 4 0 0 0 0"},
		{"come 0 1", "ok", "ends", "4 0 0 0 0 0", "come 0 0", "ok", "ends", "4 4 0 0 0 0"},
		{"come 0 0", "ok", "ends", "4 2 0 0 0 0", "come 0 0", "ok", "ends", "4 4 0 0 0 0", "come 0 0", "error"},
		{"twice 0 0", "ok", "ends", "4 0 0 0 0 0", "come 0 2", "ok", "ends", "4 2 0 0 0 0", "come 0 0", "ok", "ends", "4 2 0 0 0 0", "come 0 0", "ok", "come 0 0", "error", "ends", "4 4 0 0 0 0"},
		{"come 0 2", "error", "lose 0 2", "error", "twice 0 2", "error", "lose 1 0", "error", "twice 2 0", "error"},
	} {
		checkLines(t, "two letters", slices.Concat(two, c)...)
	}
	checkLines(t, "a letter back is lost", "write hi", "2", "tell 0 0", "ok", "lose 0 0", "ok", "come 0 0", "error", "send 0 0 0 2", "error")
	for _, hop := range []string{"0", "1", "2"} {
		lines := slices.Repeat([]string{"tell " + hop + " 0", "ok", "twice " + hop + " 0", "ok"}, 15)
		checkLines(t, "as many as there may be", append(lines, "tell "+hop+" 0", "error", "twice "+hop+" 29", "error", "lose "+hop+" 30", "error", "lose "+hop+" 29", "ok", "lose "+hop+" 29", "error", "tell "+hop+" 0", "ok", "twice "+hop+" 0", "error")...)
	}
	checkLines(t, "lost and doubled on a closed road", "tell 1 1", "ok", "turn 1 0", "ok", "twice 1 0", "ok", "come 1 1", "error", "lose 1 0", "ok", "turn 1 1", "ok", "come 1 0", "ok")
}

func TestReadingByLines(t *testing.T) {
	there := []string{"write hello all", "9", "calm 0", "0"}
	for _, c := range [][]string{
		{"read 0", "error", "read 1", "h", "read 0", "error", "read 3", "ell", "read 999999999", "o all", "read 1", "error"},
		{"read 9", "hello all", "read 9", "error", "under", "0"},
		{"read 10", "hello all", "read 0", "error", "under", "0"},
		{"read 8", "hello al", "under", "1", "read 2", "l"},
		{"read -1", "error", "read -999999999", "error", "under", "9"},
		{"end", "ok", "read 9", "hello all", "read 9", "error", "calm 0", "9", "stream", "yyn", "read 0", "-", "stream", "yyy", "read 0", "error"},
		{"end", "ok", "calm 0", "0", "stream", "yyn", "read 0", "error", "read 9", "hello all", "stream", "yyy", "read 9", "error"},
		{"end", "ok", "calm 0", "0", "read 8", "hello al", "stream", "yyn", "read 5", "l", "stream", "yyy"},
		{"end", "ok", "read -1", "error", "calm 1", "9", "read -1", "error", "read 1", "error", "stream", "yyy"},
	} {
		checkLines(t, "what is there", slices.Concat(there, c)...)
	}
	checkLines(t, "nothing is there", "read 0", "error", "read 1", "error", "write x", "1", "read 1", "error")
	checkLines(t, "a byte that is read as nothing is told", "write -", "1", "calm 0", "0", "read 1", "-", "under", "0")
	checkLines(t, "what is read looks as refused", "write error", "5", "calm 0", "0", "read 9", "error", "under", "0")
}

func TestCalmByLines(t *testing.T) {
	for _, n := range []string{"0", "2", "-1", "10", "11", "-11", "256", "257", "999999999", "-999999999"} {
		checkLines(t, "nobody reads", "write hello all", "9", "calm "+n, "0", "ends", "9 9 9 9 9 9", "under", "9", "read 2", "he", "calm "+n, "2", "calm 1", "9")
	}
	checkLines(t, "one reads", "write hello all", "9", "calm 1", "9", "ends", "9 9 9 9 9 9", "under", "0", "write x", "1", "calm 1", "10", "end", "ok", "calm 1", "10", "stream", "yyy")
	checkLines(t, "of a new World", "calm 0", "0", "calm 1", "0", "ends", "0 0 0 0 0 0", "stream", "nnn", "linked", "y", "end", "ok", "calm 1", "0", "stream", "yyy")
	checkLines(t, "what is under way is gone", "tell 0 0", "ok", "tell 1 1", "ok", "calm 0", "0", "come 0 0", "error", "come 1 0", "error", "lose 1 0", "error")
	checkLines(t, "road 0 is Open", "turn 0 0", "ok", "turn 1 0", "ok", "calm 0", "0", "turn 0 1", "error", "turn 1 1", "ok")
}

func TestTurningByLines(t *testing.T) {
	for _, n := range []string{"0", "2", "-1", "10", "11", "257", "999999999", "-999999999"} {
		for _, road := range []string{"0", "1"} {
			checkLines(t, "a road is closed", "tell 1 "+road, "ok", "turn "+road+" "+n, "ok", "turn "+road+" "+n, "error", "come 1 0", "error", "tell 1 "+road, "error", "turn "+road+" 1", "ok", "turn "+road+" 1", "error", "come 1 0", "ok")
		}
	}
	for _, road := range []string{"2", "3", "4", "-1", "256", "999999999", "-999999999"} {
		checkLines(t, "there is no such road", "turn "+road+" 1", "error", "turn "+road+" 0", "error", "tell 1 "+road, "error", "send 1 "+road+" 0 0", "error")
	}
	checkLines(t, "both are Open at first, and only the middle hop asks", "turn 0 1", "error", "turn 1 1", "error", "turn 0 0", "ok", "turn 1 0", "ok", "tell 0 0", "ok", "tell 2 0", "ok", "tell 1 0", "error", "tell 1 1", "error", "tell 0 1", "error")
}

// A doable line is done behind the lines ahead of it, and has some numbers that may not be there.
type doable struct {
	ahead []string
	line  string
	none  [][]string
}

func doables() []doable {
	noHop := []string{"-1", "3", "4", "256", "999999999", "-999999999"}
	noRoad := []string{"-1", "1", "2", "3", "4", "256", "999999999", "-999999999"}
	noLetter := []string{"-1", "1", "2", "30", "256", "999999999", "-999999999"}
	noSize := []string{"-1", "41", "400", "999999999", "-999999999"}
	told := []string{"write hello", "tell 0 0", "come 0 0"}
	came := append(slices.Clone(told), "send 0 0 0 5", "come 0 0")
	return []doable{
		{nil, "write hello", nil},
		{nil, "end", nil},
		{[]string{"end", "send 0 0 0 0", "come 0 0", "pump 0 0", "send 1 0 0 0", "come 1 0", "pump 1 0", "send 2 0 0 0", "come 2 0", "tell 2 0", "come 2 0", "tell 1 0", "come 1 0", "tell 0 0", "come 0 0"}, "look", nil},
		{told, "send 0 0 0 5", [][]string{append([]string{"1", "2"}, noHop...), noRoad, {"-1", "6", "999999999", "-999999999"}, append([]string{"0"}, noSize...)}},
		{nil, "tell 0 0", [][]string{noHop, noRoad}},
		{[]string{"tell 0 0"}, "come 0 0", [][]string{append([]string{"1", "2"}, noHop...), noLetter}},
		{[]string{"tell 1 0"}, "lose 1 0", [][]string{append([]string{"0", "2"}, noHop...), noLetter}},
		{[]string{"tell 2 0"}, "twice 2 0", [][]string{append([]string{"0", "1"}, noHop...), noLetter}},
		{came, "pump 0 5", [][]string{append([]string{"1", "2"}, noHop...), {"0", "-1", "401", "999999999", "-999999999"}}},
		{[]string{"write hello", "calm 0"}, "read 5", [][]string{{"0", "-1", "-999999999"}}},
		{nil, "turn 1 0", [][]string{{"-1", "2", "3", "4", "256", "999999999", "-999999999"}, {"1"}}},
		{[]string{"write hello"}, "calm 0", [][]string{nil}},
		{came, "under", nil},
		{came, "ends", nil},
		{came, "stream", nil},
		{came, "linked", nil},
	}
}

func answersTo(lines ...string) []string {
	answers := strings.Split(impl.Bench(linesOf(lines)), "\n")
	return answers[:len(answers)-1]
}

// checkRefusedLine has error for the answer, and all that comes behind it is as if the line were not there.
func checkRefusedLine(t *testing.T, d doable, line string) {
	t.Helper()
	rest := []string{d.line, "ends", "under", "stream", "linked", "tell 1 1", "come 1 0", "calm 0", "ends", "read 2", "end", "calm 1", "ends", "under", "stream"}
	want := answersTo(slices.Concat(d.ahead, rest)...)
	want = slices.Insert(want, len(d.ahead), "error")
	text := linesOf(slices.Concat(d.ahead, []string{line}, rest))
	checkBench(t, "behind "+strings.Join(d.ahead, ", "), text, linesOf(want))
	checkByHand(t, "behind "+strings.Join(d.ahead, ", "), text)
}

func TestEachLineIsDoneOrRefused(t *testing.T) {
	for _, d := range doables() {
		answers := answersTo(append(slices.Clone(d.ahead), d.line)...)
		if slices.Contains(answers, "error") || len(answers) != len(d.ahead)+1 {
			t.Fatalf("behind %q the answers to %q end with %q", d.ahead, d.line, answers)
		}
		words := strings.Split(d.line, " ")
		for k, none := range d.none {
			for _, number := range none {
				other := slices.Clone(words)
				other[k+1] = number
				checkRefusedLine(t, d, strings.Join(other, " "))
			}
		}
	}
}

// noNumbers has nothing of the form that the document tells.
func noNumbers() []string {
	return []string{"", "00", "01", "000000000", "0000000001", "-0", "-00", "-01", "-", "--1", "+0", "+1", "+", "1-", "1234567890", "1000000000", "-1000000000", "-1234567890", "4294967296", "-4294967296", "9223372036854775807", "9223372036854775808", "-9223372036854775808", "18446744073709551616",
		strings.Repeat("1", 100), strings.Repeat("0", 100), "0.0", "1.", ".0", "1e0", "0x0", "0b0", "0o0", "1_0", "0_0", "a", "x0", "0x", "0,", "0;", "'0'", "\"0\"", "0\r", "0\t", "\t0", "0\x00", "\x000", "\u00a00", "0\u00a0", "٠", "０", "²", "½", "−1", "\xff", "\ufeff0", "nil", "NaN", "Inf", "true", "zero"}
}

func TestNoNumbersByLines(t *testing.T) {
	for _, d := range doables() {
		words := strings.Split(d.line, " ")
		for k := 1; k < len(words) && words[0] != "write"; k++ {
			for _, number := range noNumbers() {
				other := slices.Clone(words)
				other[k] = number
				checkRefusedLine(t, d, strings.Join(other, " "))
			}
			for _, with := range []string{"0" + words[k], "+" + words[k], "-0" + words[k], words[k] + ".", words[k] + "\t", "00000000" + words[k]} {
				other := slices.Clone(words)
				other[k] = with
				checkRefusedLine(t, d, strings.Join(other, " "))
			}
		}
	}
}

func TestNumbersOfNineDigitsByLines(t *testing.T) {
	for _, n := range []string{"0", "7", "-7", "10", "-10", "100000000", "-100000000", "123456789", "999999999", "-999999999"} {
		checkLines(t, "a number", "write x", "1", "calm "+n, "0", "turn 0 "+n, "ok")
	}
	checkLines(t, "one digit more", "write x", "1", "calm 1000000000", "error", "calm -1000000000", "error", "turn 0 1000000000", "error", "calm 1", "1", "turn 0 0", "ok")
	checkLines(t, "the greatest", "write hello", "5", "calm 0", "0", "read 1000000000", "error", "read 999999999", "hello")
}

// otherWords are of a line what is a word too many or too few, or another word.
func otherWords(line string) []string {
	word, rest, numbers := strings.Cut(line, " ")
	behind := ""
	if numbers {
		behind = " " + rest
	}
	list := []string{" " + line, "  " + line, "\t" + line, "\r" + line, "\x00" + line, "\ufeff" + line, strings.ToUpper(word) + behind, strings.ToUpper(word[:1]) + word[1:] + behind, word[:1] + strings.ToUpper(word[1:]) + behind,
		word[1:] + behind, word[:len(word)-1] + behind, word + "s" + behind, "x" + word + behind, word + ":" + behind, word + "\x00" + behind, word + "\t" + rest, word + "\r" + behind, word + "0" + behind, "what" + behind, behind + " " + word, "0" + behind}
	if word == "write" {
		return append(list, "write", "write ")
	}
	list = append(list, line+" ", line+"  ", line+" 0", line+" 1", line+" -", line+" x", line+" "+line, line+"\r", line+"\t", line+"\x00", line+" \x00", strings.Replace(line, word, word+" ", 1))
	for k := range strings.Count(line, " ") {
		words := strings.Split(line, " ")
		list = append(list, strings.Join(words[:k+1], " "), strings.Join(words[:k+1], " ")+" ", strings.Join(slices.Delete(slices.Clone(words), k, k+1), " "), strings.Join(slices.Insert(words, k+1, ""), " "))
	}
	return list
}

func TestOtherWordsByLines(t *testing.T) {
	for _, d := range doables() {
		for _, line := range otherWords(d.line) {
			// One word may be another one and a letter, as end and ends.
			if !slices.Contains(allWords(), line) {
				checkRefusedLine(t, d, line)
			}
		}
	}
	for _, line := range []string{" ", "  ", "x", "0", "\r", "\x00", "\xff", "ok", "error", "y", "-", "Bench", "AcEnd", "nothing at all", "reads 1", "write\thello", "under way", "end ", "ends 0", strings.Repeat("end ", 40), strings.Repeat(" ", 2000), strings.Repeat("x", 2000), "read " + strings.Repeat("0 ", 1000)} {
		for _, d := range doables() {
			checkRefusedLine(t, d, line)
		}
	}
}

func TestLinesWithoutAByte(t *testing.T) {
	for n := range mostLines + 5 {
		checkBench(t, "nothing but ends of lines", strings.Repeat("\n", n), "")
	}
	checkBench(t, "no text", "", "")
	for _, text := range []string{"end\nend", "end\nend\n", "\nend\nend", "\n\nend\n\n\nend\n\n", "end\n\nend", "end\nend\n\n"} {
		checkBench(t, "with and without", text, "ok\nerror\n")
	}
	checkBench(t, "one line that lacks it", "under", "0\n")
	checkBench(t, "one line", "under\n", "0\n")
	checkBench(t, "a line of one blank is no line without a byte", "\n \n", "error\n")
	checkBench(t, "a byte 13 is no end of a line", "end\r\nend\rend\n", "error\nerror\n")
}

func TestBenchesOfMaxLines(t *testing.T) {
	full := strings.Repeat("under\n", mostLines)
	zeros := strings.Repeat("0\n", mostLines)
	checkBench(t, "MaxLines", full, zeros)
	checkBench(t, "MaxLines, the last lacks its byte", full[:len(full)-1], zeros)
	checkBench(t, "one more that lacks its byte", full+"x", "")
	checkBench(t, "one more", full+"under\n", "")
	checkBench(t, "one more without a byte", full+"\n", "")
	checkBench(t, "one more ahead", "\n"+full, "")
	checkBench(t, "one less", full[len("under\n"):], zeros[2:])
	for ahead := range mostLines {
		text := strings.Repeat("\n", ahead) + "under" + strings.Repeat("\n", mostLines-ahead)
		checkBench(t, "one among those without a byte", text, "0\n")
		checkBench(t, "one more without a byte", text+"\n", "")
		checkBench(t, "one more", text+"x", "")
	}
	for _, n := range []int{152, 200, 256, 300, 406, 1000, mostBench/6 - 1, mostBench} {
		checkBench(t, "many more", strings.Repeat("under\n", n), "")
		checkBench(t, "many more without a byte", "under"+strings.Repeat("\n", n), "")
	}
}

func TestBenchesOfMaxBench(t *testing.T) {
	for _, size := range []int{7, 100, 2000, mostBench - 1, mostBench, mostBench + 1, mostBench + 2, 2 * mostBench, 1 << 16, 1<<16 + 10, 1 << 20} {
		long := size > mostBench
		for _, c := range [][2]string{
			{"under\n" + strings.Repeat("x", size-6), "0\nerror\n"},
			{"under\n" + strings.Repeat(" ", size-7) + "\n", "0\nerror\n"},
			{"write " + strings.Repeat("y", size-6), strconv.Itoa(min(20, size-6)) + "\n"},
			{"write " + strings.Repeat("y", size-7) + "\n", strconv.Itoa(min(20, size-7)) + "\n"},
		} {
			if size == 7 && strings.HasSuffix(c[0], "\n") {
				continue
			}
			want := c[1]
			if long {
				want = ""
			}
			if got := impl.Bench(c[0]); len(c[0]) != size || got != want {
				t.Fatalf("a text of %d bytes, %.20q, is answered by %.40q", len(c[0]), c[0], got)
			}
		}
	}
	// Both limits at once: of 150 lines all but the last one have 53 bytes with their ends.
	lines := slices.Repeat([]string{"write " + strings.Repeat("z", 46)}, mostLines)
	text := strings.Join(lines, "\n")
	text += strings.Repeat("z", mostBench-len(text))
	checkBench(t, "both", text, "20\n"+strings.Repeat("error\n", mostLines-1))
	checkBench(t, "both, a byte more", text+"z", "")
	checkBench(t, "both, an end of a line more", text+"\n", "")
	checkBench(t, "a byte less", text[:mostBench-1], "20\n"+strings.Repeat("error\n", mostLines-1))
}

// lineOf is an Act as the bench has it.
func lineOf(a impl.Act) string {
	switch a.Kind {
	case impl.AcWrite:
		return "write " + a.Text
	case impl.AcEnd:
		return "end"
	case impl.AcSend:
		return fmt.Sprint("send ", a.Hop, " ", a.Road, " ", a.At, " ", a.N)
	case impl.AcTell:
		return fmt.Sprint("tell ", a.Hop, " ", a.Road)
	case impl.AcRead:
		return fmt.Sprint("read ", a.N)
	case impl.AcTurn:
		return fmt.Sprint("turn ", a.Road, " ", a.N)
	case impl.AcLook:
		return "look"
	}
	word := map[int64]string{impl.AcCome: "come", impl.AcLose: "lose", impl.AcTwice: "twice", impl.AcPump: "pump"}[a.Kind]
	return fmt.Sprint(word, " ", a.Hop, " ", a.N)
}

// withoutEnds has no byte that would end a line.
func withoutEnds(text string) string {
	return strings.ReplaceAll(text, "\n", " ")
}

// A temper is how a long bench goes: of 100 lines how many are calm, or wrong, or lead straight on, of 20 Letters how many are lost or doubled, and how often one thinks again of what could be done.
type temper struct {
	calm, wrong, straight, losing, thinking int64
	text                                    string
}

func (h *hand) someLine(seed *steps, c temper) string {
	switch n := seed.below(100); {
	case n < c.calm:
		return []string{"calm 0", "calm 1", "calm 2", "calm -1"}[seed.below(4)]
	case n < c.calm+c.wrong:
		return []string{"", "what", " end", "calm", "read 01", "send 0 0 0", "turn 1 -0", "write", "come 3 0", "pump 2 1", "read -1", "ends 1", "Look", "lose 1 99", "tell 0 +0", "under ", "stream x", "linked 0", "twice 1 -1", "end 0", "look 0", "linkeD"}[seed.below(22)]
	case n < c.calm+c.wrong+12:
		return []string{"under", "ends", "stream", "linked"}[seed.below(4)]
	}
	a := h.someAct(seed, c)
	for range c.thinking {
		// Most of what one may think of is refused: better to think again.
		if _, is := impl.Happen(h.w, a); is {
			break
		}
		a = h.someAct(seed, c)
	}
	return lineOf(a)
}

// someAct leads straight on, as often as the temper has it: what is under way comes, and nothing else goes along that hop before.
func (h *hand) someAct(seed *steps, c temper) impl.Act {
	if seed.below(100) >= c.straight {
		p := &player{w: h.w, written: h.w.Stream.Text}
		return p.someAct(seed, c.text, c.losing)
	}
	k := seed.below(3)
	if len(h.w.Line.Hops[k].Way) > 0 {
		return comeAct(k, 0)
	}
	left := c.text[len(h.w.Stream.Text):]
	switch seed.below(6) {
	case 0:
		return tellAct(k, 0)
	case 1:
		return sendAct(k, 0, h.w.Line.Hops[k].Giver.Base, 40)
	case 2:
		return pumpAct(seed.below(2), 400)
	case 3:
		return readAct(9)
	case 4:
		return lookAct()
	}
	if left == "" {
		return endAct()
	}
	return writeAct(left[:min(len(left), 20)])
}

// A longBench has each line with its answer by hand, and the World behind them.
type longBench struct {
	lines, answers []string
	left           impl.World
}

func someLongBench(seed *steps, c temper, most int64) longBench {
	h, size := newHand(), 0
	var b longBench
	for int64(len(b.lines)) < most {
		line := h.someLine(seed, c)
		if size += len(line) + 1; size > mostBench {
			break
		}
		b.lines, b.answers = append(b.lines, line), append(b.answers, "")
		if line != "" {
			b.answers[len(b.lines)-1] = h.answers(line) + "\n"
		}
	}
	b.left = h.w
	return b
}

// counts tells how often each word was done and how often refused.
func (b longBench) counts(done, refused map[string]int) {
	for k, line := range b.lines {
		word, _, _ := strings.Cut(line, " ")
		if b.answers[k] == "error\n" {
			refused[word]++
		} else if line != "" {
			done[word]++
		}
	}
}

func (b longBench) checkFirst(t *testing.T, n int) {
	t.Helper()
	text, want := linesOf(b.lines[:n]), strings.Join(b.answers[:n], "")
	checkBench(t, "the first lines", text, want)
	if last := n - 1; n > 0 && b.lines[last] != "" {
		checkBench(t, "the first lines, the last byte lacks", text[:len(text)-1], want)
	}
}

func tempers(seed *steps) temper {
	return temper{
		calm:     []int64{0, 0, 1, 4, 20}[seed.below(5)],
		wrong:    []int64{0, 3, 10, 40}[seed.below(4)],
		straight: []int64{0, 30, 90}[seed.below(3)],
		losing:   []int64{0, 2, 6, 11}[seed.below(4)],
		thinking: []int64{1, 4, 12}[seed.below(3)],
		text:     withoutEnds(textFrom(seed.below(200), []int64{0, 1, 5, 20, 60, 300}[seed.below(6)])),
	}
}

func allWords() []string {
	var list []string
	for _, d := range doables() {
		word, _, _ := strings.Cut(d.line, " ")
		list = append(list, word)
	}
	return list
}

func TestLongBenches(t *testing.T) {
	done, refused := map[string]int{}, map[string]int{}
	toTheEnd := 0
	for k := range 900 {
		seed := steps(2000 + k)
		b := someLongBench(&seed, tempers(&seed), mostLines-seed.below(3))
		b.checkFirst(t, len(b.lines))
		if b.counts(done, refused); b.left.Stream.Done && b.left.Stream.Seen && b.left.Stream.Text != "" {
			toTheEnd++
		}
	}
	if toTheEnd < 200 {
		t.Errorf("only %d come to the end", toTheEnd)
	}
	for _, word := range allWords() {
		if done[word] < 40 || refused[word] < 200 {
			t.Errorf("%s is done %d times, refused %d times", word, done[word], refused[word])
		}
	}
}

// The answers to the first lines of a text are the first answers to the whole text, wherever it is cut.
func TestTheFirstLinesOfLongBenches(t *testing.T) {
	for k := range 12 {
		seed := steps(2050 + k)
		b := someLongBench(&seed, tempers(&seed), mostLines)
		for n := range len(b.lines) + 1 {
			b.checkFirst(t, n)
		}
	}
}

// Where nobody reads in calm, the lines that read have, one behind the other, just what was written.
func TestWhatLinesReadIsWhatLinesWrote(t *testing.T) {
	most := 0
	for k := range 400 {
		seed := steps(2100 + k)
		c := tempers(&seed)
		c.calm = 0
		b := someLongBench(&seed, c, mostLines)
		for n, line := range b.lines {
			if seed.below(15) == 0 {
				b.lines[n] = "calm 0"
			} else if line == "" {
				b.lines[n] = "stream"
			}
		}
		answers := answersTo(b.lines...)
		written, read := "", ""
		for n, line := range b.lines {
			if text, is := strings.CutPrefix(line, "write "); is && answers[n] != "error" {
				took, _ := strconv.Atoi(answers[n])
				written += text[:took]
			}
			if strings.HasPrefix(line, "read ") && answers[n] != "error" && answers[n] != "-" {
				read += answers[n]
			}
		}
		if !strings.HasPrefix(written, read) {
			t.Fatalf("of %q was read %q", written, read)
		}
		most = max(most, len(read))
	}
	if most < 30 {
		t.Errorf("at most %d bytes are read", most)
	}
}

func someWords(seed *steps) string {
	words := append(allWords(), "what", "End", "", "-", "0")
	numbers := []string{"0", "0", "0", "1", "1", "2", "3", "5", "9", "40", "400", "-1", "01", "-0", "+1", "", "x", "1000000000", "999999999"}
	list := []string{words[seed.below(int64(len(words)))]}
	for range []int64{0, 0, 1, 1, 2, 2, 2, 2, 3, 4, 4, 5}[seed.below(12)] {
		list = append(list, numbers[seed.below(int64(len(numbers)))])
	}
	return strings.Join(list, " ")
}

// Lines of any words, and texts of any bytes: each is answered as by hand.
func TestBenchesOfAnything(t *testing.T) {
	for k := range 1500 {
		seed := steps(2150 + k)
		var lines []string
		for range seed.below(mostLines + 3) {
			lines = append(lines, someWords(&seed))
		}
		checkByHand(t, "any words", linesOf(lines))
	}
	for k := range 3000 {
		seed := steps(2200 + k)
		text, bytes := make([]byte, seed.below(300)), "\n\n  01-wreadtncmls\x00\xff"
		for at := range text {
			text[at] = bytes[seed.below(int64(len(bytes)))]
		}
		checkByHand(t, "any bytes", string(text))
	}
	for _, text := range textsToBeRead() {
		checkByHand(t, "a text", text)
		checkByHand(t, "a text that is written", "write "+text+"\ncalm 1\nunder\n")
	}
}

// Each bench begins anew, whichever was asked ahead of it or is asked at the same time.
func TestBenchesBesideEachOther(t *testing.T) {
	var benches []longBench
	for k := range 16 {
		seed := steps(2300 + k)
		benches = append(benches, someLongBench(&seed, tempers(&seed), mostLines))
	}
	wrong := make([]int, len(benches))
	var asking sync.WaitGroup
	for k, b := range benches {
		asking.Go(func() {
			for range 20 {
				if impl.Bench(linesOf(b.lines)) != strings.Join(b.answers, "") {
					wrong[k]++
				}
			}
		})
	}
	asking.Wait()
	if !slices.Equal(wrong, make([]int, len(benches))) {
		t.Fatalf("it is wrong so often: %v", wrong)
	}
}
