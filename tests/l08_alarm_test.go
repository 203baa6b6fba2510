package tests

import (
	"math"
	"slices"
	"testing"

	"loop.example/g00450/impl"
)

const lastPlace = 1000000000

// alarms takes At and Who of one behind At and Who of the other.
func alarms(places ...int64) []impl.Alarm {
	var list []impl.Alarm
	for k := 0; k < len(places); k += 2 {
		list = append(list, impl.Alarm{At: places[k], Who: places[k+1]})
	}
	return list
}

func alarm(at int64, who int64) impl.Alarm {
	return impl.Alarm{At: at, Who: who}
}

func alarmOkByWords(a impl.Alarm) bool {
	return a.At >= 0 && a.At <= lastPlace && a.Who >= 0 && a.Who <= lastPlace
}

func isAhead(a, b impl.Alarm) bool {
	if a.At == b.At {
		return a.Who < b.Who
	}
	return a.At < b.At
}

// alarmsOkByWords holds each one against each that comes behind it, not against the next alone.
func alarmsOkByWords(l []impl.Alarm) bool {
	is := len(l) <= 20
	for k, a := range l {
		is = is && alarmOkByWords(a)
		for _, b := range l[k+1:] {
			is = is && isAhead(a, b)
		}
	}
	return is
}

func setByWords(l []impl.Alarm, a impl.Alarm) ([]impl.Alarm, bool) {
	if !alarmsOkByWords(l) {
		return nil, false
	}
	if !alarmOkByWords(a) || slices.Contains(l, a) || len(l) >= 20 {
		return l, false
	}
	var list []impl.Alarm
	for _, b := range l {
		if isAhead(b, a) {
			list = append(list, b)
		}
	}
	list = append(list, a)
	return append(list, l[len(list)-1:]...), true
}

func stopByWords(l []impl.Alarm, who int64) []impl.Alarm {
	if !alarmsOkByWords(l) {
		return nil
	}
	var list []impl.Alarm
	for _, a := range l {
		if a.Who != who {
			list = append(list, a)
		}
	}
	return list
}

func ringByWords(l []impl.Alarm, now int64) ([]impl.Alarm, []int64) {
	if !alarmsOkByWords(l) || now < 0 || now > lastPlace {
		return nil, nil
	}
	var left []impl.Alarm
	var rung []int64
	for _, a := range l {
		if a.At > now {
			left = append(left, a)
		} else {
			rung = append(rung, a.Who)
		}
	}
	return left, rung
}

// manyAlarms are n whose At rises at every third only, and whose Who comes round again.
func manyAlarms(n int) []impl.Alarm {
	var list []impl.Alarm
	for k := range int64(n) {
		list = append(list, alarm(10+10*(k/3), 5+10*(k%3)))
	}
	return list
}

func rightAlarms() [][]impl.Alarm {
	return [][]impl.Alarm{
		nil,
		{},
		alarms(0, 0),
		alarms(0, lastPlace),
		alarms(lastPlace, 0),
		alarms(lastPlace, lastPlace),
		alarms(3, 2, 5, 1, 5, 2),
		alarms(3, 9, 4, 8, 5, 7),
		alarms(7, 0, 7, 1, 7, lastPlace-1, 7, lastPlace),
		alarms(0, 4, 1, 4, lastPlace-1, 4, lastPlace, 4),
		alarms(0, 0, 0, 1, 1, 0, 1, 1, lastPlace, 0, lastPlace, lastPlace),
		manyAlarms(2),
		manyAlarms(7),
		manyAlarms(19),
		manyAlarms(20),
	}
}

func noAlarms() []impl.Alarm {
	list := alarms(-1, -1, -1, lastPlace+1, lastPlace+1, -1, math.MinInt64, math.MaxInt64)
	for _, p := range noPlaces() {
		list = append(list, alarm(p, 0), alarm(p, 7), alarm(p, lastPlace), alarm(0, p), alarm(7, p), alarm(lastPlace, p), alarm(p, p))
	}
	return list
}

func wrongAlarms() [][]impl.Alarm {
	list := [][]impl.Alarm{
		alarms(5, 1, 4, 2),
		alarms(5, 1, 4, 1),
		alarms(1, 1, 3, 1, 2, 1),
		alarms(2, 1, 1, 1, 3, 1),
		alarms(5, 2, 5, 1),
		alarms(5, 1, 5, 3, 5, 2),
		alarms(5, 1, 6, 4, 6, 3, 7, 9),
		alarms(5, 1, 5, 1),
		alarms(0, 0, 0, 0),
		alarms(lastPlace, lastPlace, lastPlace, lastPlace),
		alarms(1, 1, 5, 1, 5, 1, 6, 1),
		alarms(5, 1, 6, 1, 5, 1),
		manyAlarms(21),
		manyAlarms(22),
		manyAlarms(200),
	}
	for _, a := range noAlarms() {
		list = append(list, []impl.Alarm{a}, []impl.Alarm{alarm(0, 0), a}, []impl.Alarm{a, alarm(lastPlace, lastPlace)}, []impl.Alarm{alarm(0, 0), a, alarm(lastPlace, lastPlace)})
	}
	for _, at := range []int{0, 9, 19} {
		early, late := manyAlarms(20), manyAlarms(20)
		early[at].At, late[at].Who = -1, lastPlace+1
		list = append(list, early, late)
	}
	return list
}

func TestAlarmsOk(t *testing.T) {
	if impl.MaxAlarms != 20 {
		t.Errorf("MaxAlarms is %d", impl.MaxAlarms)
	}
	for _, l := range rightAlarms() {
		if !impl.AlarmsOk(l) {
			t.Errorf("AlarmsOk says no to %v", l)
		}
	}
	for _, l := range wrongAlarms() {
		if impl.AlarmsOk(l) {
			t.Errorf("AlarmsOk says yes to %v", l)
		}
	}
}

// everyThreeAlarms calls with each list of up to three of a few Alarms, in each order.
func everyThreeAlarms(call func(l []impl.Alarm)) {
	few := alarms(-1, 1, 0, 0, 0, 1, 1, 0, 1, 1, 1, 2, lastPlace, 1, lastPlace+1, 1, 1, -1, 1, lastPlace+1)
	call(nil)
	for _, a := range few {
		call([]impl.Alarm{a})
		for _, b := range few {
			call([]impl.Alarm{a, b})
			for _, c := range few {
				call([]impl.Alarm{a, b, c})
			}
		}
	}
}

// checkAlarms holds all four calls, at each thing that can matter to this list, against the document's words.
func checkAlarms(t *testing.T, l []impl.Alarm) {
	t.Helper()
	if got := impl.AlarmsOk(l); got != alarmsOkByWords(l) {
		t.Fatalf("AlarmsOk of %v is %v", l, got)
	}
	places := append(noPlaces(), 0, 1, 2, lastPlace-1, lastPlace)
	for _, a := range l {
		places = append(places, a.At-1, a.At, a.At+1, a.Who)
	}
	tries := append(append(alarms(0, 0, 1, 1, 5, 2, lastPlace, lastPlace), noAlarms()...), l...)
	for _, a := range l {
		tries = append(tries, alarm(a.At, a.Who+1), alarm(a.At, a.Who-1), alarm(a.At+1, a.Who), alarm(a.At-1, a.Who))
	}
	for _, a := range tries {
		got, is := impl.SetAlarm(l, a)
		if want, should := setByWords(l, a); is != should || !slices.Equal(got, want) {
			t.Fatalf("SetAlarm of %v, %v is %v, %v", l, a, got, is)
		}
	}
	for _, p := range places {
		if got := impl.StopAlarms(l, p); !slices.Equal(got, stopByWords(l, p)) {
			t.Fatalf("StopAlarms of %v, %d is %v", l, p, got)
		}
		got, rung := impl.RingBy(l, p)
		if left, who := ringByWords(l, p); !slices.Equal(got, left) || !slices.Equal(rung, who) {
			t.Fatalf("RingBy of %v, %d is %v, %v", l, p, got, rung)
		}
	}
}

func TestAlarmsByWords(t *testing.T) {
	for _, l := range append(rightAlarms(), wrongAlarms()...) {
		checkAlarms(t, l)
	}
	everyThreeAlarms(func(l []impl.Alarm) { checkAlarms(t, l) })
}

func TestSetAlarmOfNamedCases(t *testing.T) {
	three := alarms(3, 2, 5, 1, 5, 4)
	for _, c := range []struct {
		name string
		list []impl.Alarm
		a    impl.Alarm
		want []impl.Alarm
		is   bool
	}{
		{"the first of all", nil, alarm(5, 2), alarms(5, 2), true},
		{"At 0", three, alarm(0, 9), alarms(0, 9, 3, 2, 5, 1, 5, 4), true},
		{"At MaxPlace", three, alarm(lastPlace, 0), alarms(3, 2, 5, 1, 5, 4, lastPlace, 0), true},
		{"Who 0", three, alarm(3, 0), alarms(3, 0, 3, 2, 5, 1, 5, 4), true},
		{"Who MaxPlace", three, alarm(5, lastPlace), alarms(3, 2, 5, 1, 5, 4, 5, lastPlace), true},
		{"At one below 0", three, alarm(-1, 2), three, false},
		{"At one past MaxPlace", three, alarm(lastPlace+1, 2), three, false},
		{"Who one below 0", three, alarm(5, -1), three, false},
		{"Who one past MaxPlace", three, alarm(5, lastPlace+1), three, false},
		{"wrong, where there is none", nil, alarm(-1, 0), nil, false},
		{"the same At and Who", three, alarm(5, 1), three, false},
		{"the first one again", three, alarm(3, 2), three, false},
		{"the last one again", three, alarm(5, 4), three, false},
		{"the same At alone", three, alarm(5, 2), alarms(3, 2, 5, 1, 5, 2, 5, 4), true},
		{"the same Who alone", three, alarm(4, 1), alarms(3, 2, 4, 1, 5, 1, 5, 4), true},
		{"this At and that Who", three, alarm(3, 4), alarms(3, 2, 3, 4, 5, 1, 5, 4), true},
		{"At and Who the other way round", three, alarm(2, 3), alarms(2, 3, 3, 2, 5, 1, 5, 4), true},
		{"a lesser Who, but later", three, alarm(6, 0), alarms(3, 2, 5, 1, 5, 4, 6, 0), true},
		{"a greater Who, but sooner", three, alarm(2, 99), alarms(2, 99, 3, 2, 5, 1, 5, 4), true},
		{"the last for which there is room", manyAlarms(19), alarm(70, 15), manyAlarms(20), true},
		{"one more", manyAlarms(20), alarm(70, 16), manyAlarms(20), false},
		{"one more, ahead of all", manyAlarms(20), alarm(0, 0), manyAlarms(20), false},
		{"no room, and it was there", manyAlarms(20), alarm(10, 5), manyAlarms(20), false},
		{"no room, and it is wrong", manyAlarms(20), alarm(-1, 5), manyAlarms(20), false},
		{"too many", manyAlarms(21), alarm(1, 1), nil, false},
		{"too many, and it was there", manyAlarms(21), alarm(10, 5), nil, false},
		{"out of order by At", alarms(5, 1, 4, 2), alarm(9, 9), nil, false},
		{"out of order by Who", alarms(5, 2, 5, 1), alarm(9, 9), nil, false},
		{"one twice", alarms(5, 1, 5, 1), alarm(9, 9), nil, false},
		{"a wrong At there", alarms(-1, 1), alarm(9, 9), nil, false},
		{"a wrong Who there", alarms(1, lastPlace+1), alarm(9, 9), nil, false},
		{"wrong there, and wrong itself", alarms(5, 2, 5, 1), alarm(-1, 9), nil, false},
	} {
		if got, is := impl.SetAlarm(c.list, c.a); is != c.is || !slices.Equal(got, c.want) {
			t.Errorf("%s: SetAlarm is %v, %v", c.name, got, is)
		}
	}
}

func TestStopAlarmsOfNamedCases(t *testing.T) {
	four := alarms(0, 7, 3, 2, 5, 1, 5, 2, lastPlace, 2)
	for _, c := range []struct {
		name string
		list []impl.Alarm
		who  int64
		want []impl.Alarm
	}{
		{"several", four, 2, alarms(0, 7, 5, 1)},
		{"one", four, 1, alarms(0, 7, 3, 2, 5, 2, lastPlace, 2)},
		{"the first one", four, 7, alarms(3, 2, 5, 1, 5, 2, lastPlace, 2)},
		{"none", four, 6, four},
		{"an At that is no Who", four, 5, four},
		{"no place", four, -1, four},
		{"one past MaxPlace", four, lastPlace + 1, four},
		{"Who 0", alarms(4, 0, 4, 1), 0, alarms(4, 1)},
		{"Who MaxPlace", alarms(4, 0, 4, lastPlace), lastPlace, alarms(4, 0)},
		{"all", alarms(1, 4, 2, 4, 9, 4), 4, nil},
		{"of nothing", nil, 4, nil},
		{"of as many as may be", manyAlarms(20), 25, slices.DeleteFunc(manyAlarms(20), func(a impl.Alarm) bool { return a.Who == 25 })},
		{"of too many", manyAlarms(21), 25, nil},
		{"of too many, none", manyAlarms(21), 1, nil},
		{"out of order by At", alarms(5, 1, 4, 2), 9, nil},
		{"out of order, but not without these", alarms(5, 1, 4, 2, 6, 1), 2, nil},
		{"out of order by Who", alarms(5, 2, 5, 1), 9, nil},
		{"one twice", alarms(5, 1, 5, 1), 9, nil},
		{"a wrong At", alarms(-1, 1), 9, nil},
		{"a wrong Who", alarms(1, 1, 2, -1), -1, nil},
	} {
		if got := impl.StopAlarms(c.list, c.who); !slices.Equal(got, c.want) {
			t.Errorf("%s: StopAlarms is %v", c.name, got)
		}
	}
}

func TestRingByOfNamedCases(t *testing.T) {
	some := alarms(0, 9, 3, 2, 5, 1, 5, 2, lastPlace, 0)
	for _, c := range []struct {
		name string
		list []impl.Alarm
		now  int64
		want []impl.Alarm
		who  []int64
	}{
		{"now 0", some, 0, alarms(3, 2, 5, 1, 5, 2, lastPlace, 0), []int64{9}},
		{"now 0, none rings", alarms(1, 1, 2, 2), 0, alarms(1, 1, 2, 2), nil},
		{"just at an At", some, 3, alarms(5, 1, 5, 2, lastPlace, 0), []int64{9, 2}},
		{"one below it", some, 2, alarms(3, 2, 5, 1, 5, 2, lastPlace, 0), []int64{9}},
		{"just at an At that two have", some, 5, alarms(lastPlace, 0), []int64{9, 2, 1, 2}},
		{"one below that", some, 4, alarms(5, 1, 5, 2, lastPlace, 0), []int64{9, 2}},
		{"one below MaxPlace", some, lastPlace - 1, alarms(lastPlace, 0), []int64{9, 2, 1, 2}},
		{"now MaxPlace: all ring", some, lastPlace, nil, []int64{9, 2, 1, 2, 0}},
		{"one past MaxPlace", some, lastPlace + 1, nil, nil},
		{"one below 0", some, -1, nil, nil},
		{"of nothing", nil, 5, nil, nil},
		{"of nothing, no place", nil, -1, nil, nil},
		{"the same Who again and again", alarms(1, 4, 2, 4, 3, 4), 2, alarms(3, 4), []int64{4, 4}},
		{"by At, not by Who", alarms(1, 9, 2, 8, 3, 7), 3, nil, []int64{9, 8, 7}},
		{"as many as may be", manyAlarms(20), 20, manyAlarms(20)[6:], []int64{5, 15, 25, 5, 15, 25}},
		{"too many", manyAlarms(21), 20, nil, nil},
		{"out of order by At", alarms(5, 1, 4, 2), 9, nil, nil},
		{"out of order by Who", alarms(5, 2, 5, 1), 9, nil, nil},
		{"out of order behind now", alarms(1, 1, 9, 2, 8, 1), 4, nil, nil},
		{"one twice", alarms(5, 1, 5, 1), 9, nil, nil},
		{"a wrong At", alarms(-1, 1), 9, nil, nil},
		{"a wrong Who", alarms(1, lastPlace+1), 9, nil, nil},
	} {
		if got, who := impl.RingBy(c.list, c.now); !slices.Equal(got, c.want) || !slices.Equal(who, c.who) {
			t.Errorf("%s: RingBy is %v, %v", c.name, got, who)
		}
	}
}

func TestRoomForAlarms(t *testing.T) {
	var l []impl.Alarm
	for k := range int64(20) {
		at, is := l, false
		l, is = impl.SetAlarm(l, alarm(7*k%20, 3))
		if !is || len(l) != len(at)+1 || !impl.AlarmsOk(l) {
			t.Fatalf("the one numbered %d makes of %v %v, %v", k, at, l, is)
		}
	}
	if got, is := impl.SetAlarm(l, alarm(20, 3)); is || !slices.Equal(got, l) {
		t.Errorf("one more than MaxAlarms is %v, %v", got, is)
	}
	less, rung := impl.RingBy(l, 0)
	if got, is := impl.SetAlarm(less, alarm(20, 3)); !is || len(got) != 20 || got[19] != alarm(20, 3) || !slices.Equal(rung, []int64{3}) {
		t.Errorf("where one rang it is %v, %v", got, is)
	}
}

// All alarms of a clock: what was set and neither stopped nor rung, without any order.
type clock struct {
	l   []impl.Alarm
	set map[impl.Alarm]bool
	now int64
}

func (c *clock) stands(t *testing.T) {
	t.Helper()
	if !impl.AlarmsOk(c.l) || !alarmsOkByWords(c.l) || len(c.l) != len(c.set) {
		t.Fatalf("of %v it is %v", c.set, c.l)
	}
	for _, a := range c.l {
		if !c.set[a] {
			t.Fatalf("%v is there, but was not set", a)
		}
	}
}

func (c *clock) sets(t *testing.T, a impl.Alarm) {
	t.Helper()
	l, is := impl.SetAlarm(c.l, a)
	if is != (!c.set[a] && len(c.set) < 20) {
		t.Fatalf("SetAlarm of %v, %v is %v, %v", c.l, a, l, is)
	}
	if is {
		c.set[a] = true
	}
	c.l = l
}

func (c *clock) stops(who int64) {
	c.l = impl.StopAlarms(c.l, who)
	for a := range c.set {
		if a.Who == who {
			delete(c.set, a)
		}
	}
}

// rings asks of each that rings that it was set and is due, that none is due ahead of it, and of each other one that it stays.
func (c *clock) rings(t *testing.T, now int64) {
	t.Helper()
	before := c.l
	l, rung := impl.RingBy(c.l, now)
	for _, who := range rung {
		soonest := alarm(math.MaxInt64, 0)
		for a := range c.set {
			if isAhead(a, soonest) {
				soonest = a
			}
		}
		if soonest.At > now || soonest.Who != who {
			t.Fatalf("of %v at %d ring %v: %v is the soonest", before, now, rung, soonest)
		}
		delete(c.set, soonest)
	}
	for a := range c.set {
		if a.At <= now {
			t.Fatalf("of %v at %d ring %v, not %v", before, now, rung, a)
		}
	}
	c.l, c.now = l, now
}

func TestWhoRingsWasSetSoonestFirst(t *testing.T) {
	for seed := range steps(60) {
		c := &clock{set: map[impl.Alarm]bool{}}
		reach := 1 + seed.below(50)
		for range 300 {
			switch seed.below(8) {
			case 0:
				c.stops(seed.below(8))
			case 1:
				c.rings(t, min(lastPlace, c.now+seed.below(1+reach/3)))
			default:
				c.sets(t, alarm(c.now+seed.below(reach), seed.below(8)))
			}
			c.stands(t)
		}
		for len(c.l) > 0 {
			c.rings(t, c.now+1)
			c.stands(t)
		}
		if len(c.set) > 0 {
			t.Fatalf("these never rang: %v", c.set)
		}
	}
}

// Five in each order in which they can be set ring in the one order.
func TestAlarmsSetInEachOrder(t *testing.T) {
	five := alarms(0, 4, 3, 1, 3, 2, 3, lastPlace, lastPlace, 0)
	for order := range 120 {
		left, l := slices.Clone(five), []impl.Alarm(nil)
		for len(left) > 0 {
			k := order % len(left)
			order /= len(left)
			l, _ = impl.SetAlarm(l, left[k])
			left = slices.Delete(left, k, k+1)
		}
		if !slices.Equal(l, five) {
			t.Errorf("set in another order it is %v", l)
		}
		if rest, who := impl.RingBy(l, 3); !slices.Equal(rest, five[4:]) || !slices.Equal(who, []int64{4, 1, 2, lastPlace}) {
			t.Errorf("at 3 it is %v, %v", rest, who)
		}
	}
}

// checkOwnAlarms writes over what was given and what was answered, spare room and all: all else stays.
func checkOwnAlarms(t *testing.T, name string, l []impl.Alarm, call func(l []impl.Alarm) ([]impl.Alarm, []int64)) {
	t.Helper()
	given := sparePlaces(l, alarm(500, 500))
	was := slices.Clone(given[:cap(given)])
	got, who := call(given)
	if !slices.Equal(given[:cap(given)], was) {
		t.Errorf("%s of %v: what was given is now %v", name, l, given[:cap(given)])
	}
	want, rung := slices.Clone(got), slices.Clone(who)
	scratchAll(given, alarm(99, 99))
	if !slices.Equal(got, want) || !slices.Equal(who, rung) {
		t.Errorf("%s of %v: the answer is now %v, %v", name, l, got, who)
	}
	copy(given[:cap(given)], was)
	scratchAll(who, 77)
	if !slices.Equal(got, want) || !slices.Equal(given[:cap(given)], was) {
		t.Errorf("%s of %v: beside who rang it is now %v", name, l, got)
	}
	scratchAll(got, alarm(77, 77))
	if !slices.Equal(given[:cap(given)], was) {
		t.Errorf("%s of %v: behind the answer, what was given is now %v", name, l, given[:cap(given)])
	}
}

func TestAlarmsShareNothing(t *testing.T) {
	for _, l := range append(rightAlarms(), wrongAlarms()...) {
		for _, a := range append(alarms(0, 0, 11, 5, 10, 5, 30, 16, lastPlace, lastPlace, -1, 0), l...) {
			checkOwnAlarms(t, "SetAlarm", l, func(l []impl.Alarm) ([]impl.Alarm, []int64) {
				got, _ := impl.SetAlarm(l, a)
				return got, nil
			})
		}
		for _, p := range []int64{-1, 0, 1, 4, 5, 15, 30, 70, lastPlace, lastPlace + 1} {
			checkOwnAlarms(t, "StopAlarms", l, func(l []impl.Alarm) ([]impl.Alarm, []int64) { return impl.StopAlarms(l, p), nil })
			checkOwnAlarms(t, "RingBy", l, func(l []impl.Alarm) ([]impl.Alarm, []int64) { return impl.RingBy(l, p) })
		}
		checkOwnAlarms(t, "AlarmsOk", l, func(l []impl.Alarm) ([]impl.Alarm, []int64) {
			impl.AlarmsOk(l)
			return nil, nil
		})
	}
}
