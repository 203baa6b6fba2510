package tests

import (
	"cmp"
	"fmt"
	"go/ast"
	"go/parser"
	"go/token"
	"math"
	"path/filepath"
	"reflect"
	"slices"
	"strings"
	"testing"

	"loop.example/g00450/impl"
)

// Promise 21, of all functions of the twenty chapters alike: whatever it is given each one answers, keeps what it was given, and answers in memory of its own.

func everyFunction() map[string]any {
	return map[string]any{
		"MarkOf": impl.MarkOf, "Ahead": impl.Ahead, "PlaceOf": impl.PlaceOf,
		"Sum": impl.Sum, "Right": impl.Right, "Turned": impl.Turned,
		"SegOk": impl.SegOk, "ShowSeg": impl.ShowSeg, "ReadSeg": impl.ReadSeg, "Spoilt": impl.Spoilt,
		"SpansOk": impl.SpansOk, "Added": impl.Added, "Cut": impl.Cut, "HasAll": impl.HasAll, "FirstHole": impl.FirstHole,
		"TakerOk": impl.TakerOk, "NewTaker": impl.NewTaker, "LimitOf": impl.LimitOf, "Takes": impl.Takes, "TakenAway": impl.TakenAway,
		"GiverOk": impl.GiverOk, "NewGiver": impl.NewGiver, "Writes": impl.Writes, "Ends": impl.Ends, "Offers": impl.Offers, "Hears": impl.Hears,
		"HopOk": impl.HopOk, "NewHop": impl.NewHop, "Sends": impl.Sends, "Tells": impl.Tells, "Arrives": impl.Arrives, "Loses": impl.Loses, "Doubles": impl.Doubles,
		"AlarmsOk": impl.AlarmsOk, "SetAlarm": impl.SetAlarm, "StopAlarms": impl.StopAlarms, "RingBy": impl.RingBy,
		"PaceOk": impl.PaceOk, "NewPace": impl.NewPace, "Measured": impl.Measured, "Longer": impl.Longer,
		"RoadsOk": impl.RoadsOk, "Turn": impl.Turn, "Used": impl.Used, "OpenOnes": impl.OpenOnes,
		"Cheapest": impl.Cheapest, "AfterIt": impl.AfterIt, "Safest": impl.Safest, "Chosen": impl.Chosen,
		"Pumps": impl.Pumps, "CanPump": impl.CanPump,
		"LineOk": impl.LineOk, "NewLine": impl.NewLine, "RoomOf": impl.RoomOf, "AtDesk": impl.AtDesk,
		"MayTell": impl.MayTell, "WriterDone": impl.WriterDone, "ReaderAtEnd": impl.ReaderAtEnd,
		"StreamOk": impl.StreamOk, "Grew": impl.Grew, "WasRead": impl.WasRead, "Ended": impl.Ended, "TellEnd": impl.TellEnd,
		"WorldOk": impl.WorldOk, "NewWorld": impl.NewWorld, "Happen": impl.Happen, "Play": impl.Play,
		"UnderWay": impl.UnderWay, "EndsOf": impl.EndsOf, "StartsOf": impl.StartsOf, "Linked": impl.Linked,
		"PairOk": impl.PairOk, "NewPair": impl.NewPair, "HappenIn": impl.HappenIn, "Quiet": impl.Quiet,
		"Calm": impl.Calm, "AllRead": impl.AllRead,
		"Bench": impl.Bench,
	}
}

func namesOf(functions map[string]any) []string {
	var names []string
	for name := range functions {
		names = append(names, name)
	}
	slices.Sort(names)
	return names
}

// exportedFunctions are those that stand in the program's own files.
func exportedFunctions(t *testing.T) []string {
	t.Helper()
	files, err := filepath.Glob("../impl/*.go")
	if err != nil || len(files) < 20 {
		t.Fatalf("the files are %v, %v", files, err)
	}
	var names []string
	for _, file := range files {
		parsed, err := parser.ParseFile(token.NewFileSet(), file, nil, 0)
		if err != nil {
			t.Fatal(err)
		}
		for _, d := range parsed.Decls {
			if f, is := d.(*ast.FuncDecl); is && f.Recv == nil && f.Name.IsExported() {
				names = append(names, f.Name.Name)
			}
		}
	}
	slices.Sort(names)
	return names
}

func TestEveryFunctionIsAsked(t *testing.T) {
	if names, all := namesOf(everyFunction()), exportedFunctions(t); !slices.Equal(names, all) {
		t.Errorf("asked are %v, and there are %v", names, all)
	}
}

func numbersOfAllKinds() []int64 {
	list := []int64{0, 1, 2, 3, 4, 5, 6, 7, 9, 20, 30, 40, 199, 200, 255, 256, 300, 400, 999, 1000, 2000, 60000, 65535, 480000, lastPlace - 400, lastPlace, math.MaxInt32, math.MaxInt32 + 1, round - 1, round, math.MaxInt64 - 400, math.MaxInt64}
	for _, n := range slices.Clone(list) {
		list = append(list, -n)
		if n < math.MaxInt64 {
			list = append(list, n+1)
		}
	}
	return append(list, math.MinInt64, math.MinInt64+1, math.MinInt64+400)
}

func textsOfAllKinds() []string {
	list := []string{"", "a", "hi", "abc", everyByte(), "\x00", "\xff", "\n", " ", "é\u2028", "write hello\ncalm 1\nends", strings.Repeat("tell 1 1\n", 150), strings.Repeat("\n", 151), "read 99999999999999999999\ncalm -0\nsend 0 0 0\nturn 1 7"}
	for _, n := range []int64{19, 20, 21, 39, 40, 41, 255, 256, 399, 400, 401, 1999, 2000, 2001, 8000, 8001} {
		list = append(list, textFrom(0, n), strings.Repeat("x", int(n)))
	}
	for _, g := range lettersToTry() {
		list = append(list, impl.ShowSeg(g))
	}
	return list
}

// someOf has as many of a list as are asked, from its beginning to its end.
func someOf[T any](list []T, count int) []T {
	var some []T
	for k := range count {
		some = append(some, list[k*len(list)/count])
	}
	return some
}

func manyActs(n int) []impl.Act {
	return slices.Repeat(actsOfEachKind(), n)[:n]
}

func worldsOfAllKinds() []impl.World {
	late := impl.Play(newWorldByWords(), []impl.Act{writeAct("hello"), tellAct(0, 0), tellAct(1, 1), comeAct(0, 0), sendAct(0, 0, 0, 3), twiceAct(0, 0), endAct(), turnAct(0, 0)})
	return []impl.World{few(0), few(1), late, newWorldByWords(), toldWorld(manyRoads(2), 1), {}}
}

// A stock has, for each type that a function takes, what is right; what is wrong is made of it.
type stock map[reflect.Type][]reflect.Value

func stocked[T any](s stock, list ...T) {
	for _, one := range list {
		s[reflect.TypeFor[T]()] = append(s[reflect.TypeFor[T]()], reflect.ValueOf(one))
	}
}

func wholeStock() stock {
	s := stock{}
	stocked(s, numbersOfAllKinds()...)
	stocked(s, false, true)
	stocked(s, textsOfAllKinds()...)
	stocked(s, plainCaps(), []int64{1, 400, 1, 400, 1, 400})
	stocked(s, someOf(lettersToTry(), 4)...)
	stocked(s, span(2, 5), span(0, 1), span(0, lastPlace))
	stocked(s, spans(1, 3, 5, 8), manySpans(30, 0), manySpans(29, 0), nil)
	stocked(s, few(0).Line.Hops[0].Taker, few(0).Line.Hops[1].Taker, taker(7, "fg", 9, 7), taker(0, "", 400, -1))
	stocked(s, few(0).Line.Hops[0].Giver, few(0).Line.Hops[1].Giver, doneGiver(7, 9, 9), giver(0, textFrom(0, 400), 400, 400))
	stocked(s, append(few(0).Line.Hops, hop(giver(7, "hijkl", 9, 10), taker(7, "efg", 9, 12, part(8, "i"), part(10, "kl")), manyLetters(30)...))...)
	stocked(s, alarm(5, 2), alarm(0, 0), alarm(lastPlace, lastPlace))
	stocked(s, alarms(3, 2, 5, 1, 5, 2), manyAlarms(20), manyAlarms(19), nil)
	stocked(s, someOf(rightPaces(), 4)...)
	stocked(s, roads(openRoad(1, 5, 2), closedRoad(2, 7, 7)), manyRoads(4), manyRoads(1))
	for _, w := range worldsOfAllKinds() {
		stocked(s, w)
		stocked(s, w.Line)
		stocked(s, w.Stream)
	}
	stocked(s, actsOfEachKind()...)
	stocked(s, actsOfEachKind(), manyActs(300), nil)
	stocked(s, pair(few(0), few(1)), pair(newWorldByWords(), toldWorld(manyRoads(1), 1)))
	return s
}

// own is a copy that can be set, with other things in the spare room behind each of its lists.
func own(v reflect.Value) reflect.Value {
	one := reflect.New(v.Type()).Elem()
	switch v.Kind() {
	case reflect.Struct:
		for k := range v.NumField() {
			one.Field(k).Set(own(v.Field(k)))
		}
	case reflect.Slice:
		one.Set(reflect.MakeSlice(v.Type(), v.Len()+2, v.Len()+2))
		for k := range v.Len() {
			one.Index(k).Set(own(v.Index(k)))
		}
		fill(one.Index(v.Len()))
		fill(one.Index(v.Len() + 1))
		one.SetLen(v.Len())
	default:
		one.Set(v)
	}
	return one
}

// fill makes of each number, text and flag one that would be seen where it does not belong.
func fill(v reflect.Value) {
	switch v.Kind() {
	case reflect.Struct:
		for k := range v.NumField() {
			fill(v.Field(k))
		}
	case reflect.Int64:
		v.SetInt(77)
	case reflect.String:
		v.SetString("spare")
	case reflect.Bool:
		v.SetBool(true)
	}
}

// whole is a copy of all that is there, with what lies in the spare room, too.
func whole(v reflect.Value) reflect.Value {
	one := reflect.New(v.Type()).Elem()
	switch v.Kind() {
	case reflect.Struct:
		for k := range v.NumField() {
			one.Field(k).Set(whole(v.Field(k)))
		}
	case reflect.Slice:
		all := v.Slice3(0, v.Cap(), v.Cap())
		one.Set(reflect.MakeSlice(v.Type(), v.Cap(), v.Cap()))
		for k := range v.Cap() {
			one.Index(k).Set(whole(all.Index(k)))
		}
	default:
		one.Set(v)
	}
	return one
}

func eachOf(list []reflect.Value, one func(v reflect.Value) reflect.Value) []reflect.Value {
	var all []reflect.Value
	for _, v := range list {
		all = append(all, one(v))
	}
	return all
}

func areSame(a, b []reflect.Value) bool {
	return slices.EqualFunc(a, b, func(a, b reflect.Value) bool { return reflect.DeepEqual(a.Interface(), b.Interface()) })
}

// A stretch is the memory that a list has, its spare room too.
type stretch struct {
	from, to uintptr
}

func stretchesOf(v reflect.Value) []stretch {
	var list []stretch
	switch v.Kind() {
	case reflect.Struct:
		for k := range v.NumField() {
			list = append(list, stretchesOf(v.Field(k))...)
		}
	case reflect.Slice:
		if v.Cap() > 0 {
			list = append(list, stretch{v.Pointer(), v.Pointer() + uintptr(v.Cap())*v.Type().Elem().Size()})
		}
		for k := range v.Len() {
			list = append(list, stretchesOf(v.Index(k))...)
		}
	}
	return list
}

// shareAny is of lists of values: no list in any of them may have a piece of another one's memory.
func shareAny(lists ...[]reflect.Value) bool {
	var all []stretch
	for _, v := range slices.Concat(lists...) {
		all = append(all, stretchesOf(v)...)
	}
	slices.SortFunc(all, func(a, b stretch) int { return cmp.Compare(a.from, b.from) })
	for k := 1; k < len(all); k++ {
		if all[k].from < all[k-1].to {
			return true
		}
	}
	return false
}

// A mixer asks a function with what it makes of a stock: right, wrong in one thing, or wrong in many.
type mixer struct {
	name string
	f    reflect.Value
	s    stock
	seed steps
}

func newMixer(name string, seed steps) *mixer {
	return &mixer{name, reflect.ValueOf(everyFunction()[name]), wholeStock(), seed}
}

func (m *mixer) below(n int) int {
	return int(m.seed.below(int64(n)))
}

// pick is a copy of something right; of numbers it is mostly a small one, as hops and roads are.
func (m *mixer) pick(t *testing.T, k int) reflect.Value {
	t.Helper()
	list := m.s[m.f.Type().In(k)]
	if len(list) == 0 {
		t.Fatalf("%s: of %v there is none in stock", m.name, m.f.Type().In(k))
	}
	if m.f.Type().In(k).Kind() == reflect.Int64 && m.below(3) > 0 {
		return own(reflect.ValueOf(m.seed.below(9)))
	}
	return own(list[m.below(len(list))])
}

func (m *mixer) picks(t *testing.T) []reflect.Value {
	t.Helper()
	var args []reflect.Value
	for k := range m.f.Type().NumIn() {
		args = append(args, m.pick(t, k))
	}
	return args
}

func (m *mixer) called(t *testing.T, args []reflect.Value) []reflect.Value {
	t.Helper()
	defer func() {
		if why := recover(); why != nil {
			t.Fatalf("%s of %.3000s panics: %v", m.name, shown(args), why)
		}
	}()
	return m.f.Call(args)
}

func shown(list []reflect.Value) string {
	text := ""
	for _, v := range list {
		text += fmt.Sprintf("%#v ", v.Interface())
	}
	return text
}

// asks holds the promise: it answers, alike whenever it is asked, what it was given stays, and no memory is shared.
func (m *mixer) asks(t *testing.T, args []reflect.Value) {
	t.Helper()
	given := eachOf(args, own)
	was := eachOf(given, whole)
	one := m.called(t, given)
	other := m.called(t, given)
	if shareAny(given, one, other) {
		t.Fatalf("%s of %.3000s shares memory: %.3000s", m.name, shown(was), shown(one))
	}
	if !areSame(eachOf(given, whole), was) {
		t.Fatalf("%s: what was given, %.3000s, is now %.3000s", m.name, shown(was), shown(given))
	}
	if !areSame(one, other) {
		t.Fatalf("%s of %.3000s is %.3000s, and then %.3000s", m.name, shown(given), shown(one), shown(other))
	}
}

// otherNumbers lie at the edges of what numbers mean in the chapters, and far from all of that.
func otherNumbers() []int64 {
	return []int64{math.MinInt64, math.MinInt64 + 1, -lastPlace, -round, -401, -2, -1, 0, 1, 2, 3, 4, 31, 41, 401, 2001, 65536, lastPlace - 1, lastPlace, lastPlace + 1, math.MaxInt32 + 1, round - 1, round, math.MaxInt64 - 400, math.MaxInt64}
}

// others are what may stand in the place of one thing: of a list the lists that are empty, shorter, too long or do not rise.
func others(v reflect.Value) []reflect.Value {
	var list []reflect.Value
	switch v.Kind() {
	case reflect.Int64:
		for _, n := range otherNumbers() {
			list = append(list, reflect.ValueOf(n))
		}
	case reflect.Bool:
		list = append(list, reflect.ValueOf(!v.Bool()))
	case reflect.String:
		for _, text := range []string{"", "x", v.String() + "\x00", v.String()[:len(v.String())/2], textFrom(0, 41), textFrom(0, 401), textFrom(0, 2001)} {
			list = append(list, reflect.ValueOf(text))
		}
	case reflect.Slice:
		list = append(list, reflect.Zero(v.Type()), reflect.MakeSlice(v.Type(), 0, 3))
		if n := v.Len(); n > 0 {
			list = append(list, v.Slice(0, n-1), v.Slice(1, n), turnedList(v), repeated(v, n+1), repeated(v, 31))
		}
		if v.Len() > 0 && v.Type() == reflect.TypeFor[[]impl.Act]() {
			list = append(list, repeated(v, mostActs), repeated(v, mostActs+1))
		}
	}
	return list
}

func turnedList(v reflect.Value) reflect.Value {
	list := reflect.MakeSlice(v.Type(), 0, 0)
	for k := v.Len() - 1; k >= 0; k-- {
		list = reflect.Append(list, v.Index(k))
	}
	return list
}

func repeated(v reflect.Value, count int) reflect.Value {
	list := reflect.MakeSlice(v.Type(), 0, 0)
	for k := range count {
		list = reflect.Append(list, v.Index(k%v.Len()))
	}
	return list
}

// eachOther asks with each single thing in v, one after the other, as each of its others; behind that v is as it was.
func eachOther(v reflect.Value, asks func()) {
	was := reflect.New(v.Type()).Elem()
	was.Set(v)
	for _, other := range others(v) {
		v.Set(other)
		asks()
	}
	v.Set(was)
	for _, inner := range within(v) {
		eachOther(inner, asks)
	}
}

// within has of a long list the first ones and the last ones: those between are like them.
func within(v reflect.Value) []reflect.Value {
	var list []reflect.Value
	switch v.Kind() {
	case reflect.Struct:
		for k := range v.NumField() {
			list = append(list, v.Field(k))
		}
	case reflect.Slice:
		for k := range v.Len() {
			if k < 3 || k >= v.Len()-3 {
				list = append(list, v.Index(k))
			}
		}
	}
	return list
}

// spoils makes one thing somewhere in v another one.
func (m *mixer) spoils(v reflect.Value) {
	list, inner := others(v), within(v)
	if len(inner) > 0 && (len(list) == 0 || m.below(4) > 0) {
		m.spoils(inner[m.below(len(inner))])
	} else if len(list) > 0 {
		v.Set(list[m.below(len(list))])
	}
}

// eachFunction lets the functions be asked side by side: none of them may hang on another one.
func eachFunction(t *testing.T, asks func(t *testing.T, m *mixer)) {
	t.Helper()
	for k, name := range namesOf(everyFunction()) {
		t.Run(name, func(t *testing.T) {
			t.Parallel()
			asks(t, newMixer(name, steps(21+k)))
		})
	}
}

func TestEveryFunctionAnswers(t *testing.T) {
	eachFunction(t, func(t *testing.T, m *mixer) {
		for range 600 {
			m.asks(t, m.picks(t))
		}
	})
}

// Each argument in its turn, wrong in each thing that it has, while the others are right.
func TestEveryFunctionAnswersWhereOneThingIsWrong(t *testing.T) {
	eachFunction(t, func(t *testing.T, m *mixer) {
		for k := range m.f.Type().NumIn() {
			for _, right := range m.s[m.f.Type().In(k)] {
				v := own(right)
				eachOther(v, func() {
					args := m.picks(t)
					args[k] = v
					m.asks(t, args)
				})
			}
		}
	})
}

func TestEveryFunctionAnswersWhereManyThingsAreWrong(t *testing.T) {
	eachFunction(t, func(t *testing.T, m *mixer) {
		for range 1500 {
			args := m.picks(t)
			for _, v := range args {
				for range m.below(4) {
					m.spoils(v)
				}
			}
			m.asks(t, args)
		}
	})
}
