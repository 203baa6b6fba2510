package impl

const MaxPlace = 1000000000

const maxMark = 4294967295

const (
	noMark  = -1
	noPlace = -1
	noWay   = -2147483649
)

// roundMark has just 32 bits, so that its own wrap-round is the going round of marks.
type roundMark uint32

func (m roundMark) after(places int64) roundMark {
	return m + roundMark(places)
}

// wayTo reads the difference as a signed number: that takes the shorter way round, and half way round counts as back.
func (m roundMark) wayTo(other roundMark) int64 {
	return int64(int32(other - m))
}

func isMark(n int64) bool {
	return n >= 0 && n <= maxMark
}

func isPlace(n int64) bool {
	return n >= 0 && n <= MaxPlace
}

func MarkOf(start int64, place int64) int64 {
	if !isMark(start) || !isPlace(place) {
		return noMark
	}
	markAt := roundMark(start).after
	return int64(markAt(place))
}

func Ahead(a int64, b int64) int64 {
	return betweenMarks(a, b, roundMark.wayTo)
}

// betweenMarks keeps the check of both marks apart from what is asked of them.
func betweenMarks(a int64, b int64, way func(roundMark, roundMark) int64) int64 {
	if !isMark(a) || !isMark(b) {
		return noWay
	}
	return way(roundMark(a), roundMark(b))
}

func PlaceOf(start int64, near int64, mark int64) int64 {
	if !isMark(start) || !isPlace(near) || !isMark(mark) {
		return noPlace
	}
	markAt := roundMark(start).after
	place := near + markAt(near).wayTo(roundMark(mark))
	// Half way round needs no check of its own: all places are less than that from each other.
	if !isPlace(place) {
		return noPlace
	}
	return place
}
