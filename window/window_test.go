package window_test

import (
	"math"
	"math/big"
	"math/rand"
	"slices"
	"strconv"
	"testing"

	"footman/api"
	"footman/window"
)

const (
	most          = 2147483647
	protocolError = 1
	flowError     = 3
)

// windows are numbers that are windows: at both ends, around 0, and between.
var windows = []int{-most, -most + 1, -most + 2, -most / 2, -65535, -5, -2, -1, 0, 1, 2, 5, 65535, most / 2, most - 2, most - 1, most}

// outside are numbers that are no windows, on both sides, to both ends of what an int can tell.
var outside = []int{
	math.MinInt, math.MinInt + 1, math.MinInt + 2, math.MinInt + most, math.MinInt + most + 1, -1 << 62, -1 << 40, -1<<32 - 1, -1 << 32, -1<<32 + 1, -2 * most, -most - 5, -most - 3, -most - 2, -most - 1,
	most + 1, most + 2, most + 3, most + 5, 2 * most, 1<<32 - 1, 1 << 32, 1<<32 + 1, 1 << 40, 1 << 62, math.MaxInt - most - 1, math.MaxInt - most, math.MaxInt - 2, math.MaxInt - 1, math.MaxInt,
}

func everyNumber() []int { return slices.Concat(windows, outside) }

// sum reckons in numbers that have no range; false if it is no window.
func sum(w, more, less int) (int, bool) {
	n := new(big.Int).Add(big.NewInt(int64(w)), big.NewInt(int64(more)))
	n.Sub(n, big.NewInt(int64(less)))
	if n.CmpAbs(big.NewInt(most)) > 0 {
		return 0, false
	}
	return int(n.Int64()), true
}

func isWindow(w int) bool {
	_, is := sum(w, 0, 0)
	return is
}

func modelTake(w, n int) (int, bool) {
	switch {
	case !isWindow(w), n < 0, w < n:
		return w, false
	}
	left, _ := sum(w, 0, n)
	return left, true
}

func modelGive(w, n int) (int, api.Code) {
	got, is := sum(w, n, 0)
	switch {
	case !isWindow(w):
		return w, flowError
	case n < 1, n > most:
		return w, protocolError
	case !is:
		return w, flowError
	}
	return got, 0
}

func modelShift(w, from, to int) (int, api.Code) {
	got, is := sum(w, to, from)
	switch {
	case !isWindow(w):
		return w, flowError
	case from < 0, from > most, to < 0, to > most:
		return w, protocolError
	case !is:
		return w, flowError
	}
	return got, 0
}

// modelMay is the number that none of the four is below, and one of them is.
func modelMay(conn, stream, frame, left int) int {
	l := []int{conn, stream, frame, left}
	slices.Sort(l)
	if l[0] < 1 {
		return 0
	}
	return l[0]
}

func modelAct(w int, x window.Act) (int, api.Code) {
	switch x.Kind {
	case 0:
		left, is := modelTake(w, x.N)
		if !is {
			return w, flowError
		}
		return left, 0
	case 1:
		return modelGive(w, x.N)
	case 2:
		return modelShift(w, 0, x.N)
	case 3:
		return modelShift(w, x.N, 0)
	}
	return w, 0
}

func modelRun(w int, l []window.Act) (int, api.Code) {
	for _, x := range l {
		next, code := modelAct(w, x)
		if code != 0 {
			return w, code
		}
		w = next
	}
	return w, 0
}

func wantCheck(t *testing.T, w int, want api.Errno) {
	t.Helper()
	if e := window.Check(w); e != want {
		t.Errorf("Check(%d) = %d, want %d", w, e, want)
	}
}

func wantTake(t *testing.T, w, n, want int) {
	t.Helper()
	if left, is := window.Take(w, n); left != want || !is {
		t.Errorf("Take(%d, %d) = %d, %t, want %d, true", w, n, left, is, want)
	}
}

// wantNotTaken holds that bytes can't be taken, and that the window is as it was.
func wantNotTaken(t *testing.T, w, n int) {
	t.Helper()
	if left, is := window.Take(w, n); left != w || is {
		t.Errorf("Take(%d, %d) = %d, %t, want it as it was, and false", w, n, left, is)
	}
}

func wantGive(t *testing.T, w, n, want int) {
	t.Helper()
	if got, code := window.Give(w, n); got != want || code != 0 {
		t.Errorf("Give(%d, %d) = %d, %d, want %d", w, n, got, code, want)
	}
}

// wantNotGiven holds that bytes can't be given, and that the window is as it was.
func wantNotGiven(t *testing.T, w, n int, want api.Code) {
	t.Helper()
	if got, code := window.Give(w, n); got != w || code != want {
		t.Errorf("Give(%d, %d) = %d, %d, want it as it was, and %d", w, n, got, code, want)
	}
}

func wantShift(t *testing.T, w, from, to, want int) {
	t.Helper()
	if got, code := window.Shift(w, from, to); got != want || code != 0 {
		t.Errorf("Shift(%d, %d, %d) = %d, %d, want %d", w, from, to, got, code, want)
	}
}

// wantNotShifted holds that a window can't be shifted so, and that it is as it was.
func wantNotShifted(t *testing.T, w, from, to int, want api.Code) {
	t.Helper()
	if got, code := window.Shift(w, from, to); got != w || code != want {
		t.Errorf("Shift(%d, %d, %d) = %d, %d, want it as it was, and %d", w, from, to, got, code, want)
	}
}

// wantMay holds how many bytes may stand in a frame, whichever of the four has which number.
func wantMay(t *testing.T, a, b, c, d, want int) {
	t.Helper()
	numbers := []int{a, b, c, d}
	for i := range 4 {
		for j := range 4 {
			for k := range 4 {
				if i == j || i == k || j == k {
					continue
				}
				conn, stream, frame, left := numbers[i], numbers[j], numbers[k], numbers[6-i-j-k]
				if n := window.May(conn, stream, frame, left); n != want {
					t.Errorf("May(%d, %d, %d, %d) = %d, want %d", conn, stream, frame, left, n, want)
				}
			}
		}
	}
}

func act(kind uint8, n int) window.Act { return window.Act{Kind: kind, N: n} }

func show(l []window.Act) string {
	s := strconv.Itoa(len(l)) + "["
	for _, x := range l[:min(len(l), 9)] {
		s += " " + strconv.Itoa(int(x.Kind)) + ":" + strconv.Itoa(x.N)
	}
	return s + " ]"
}

// wantRun also holds that the acts that came in stay as they were, with what stands in the room behind them, which is not done.
func wantRun(t *testing.T, w int, l []window.Act, want int, wantCode api.Code) {
	t.Helper()
	came := append(slices.Clip(slices.Clone(l)), act(1, 1), act(2, 1), act(0, 0))[:len(l)]
	was := slices.Clone(came[:cap(came)])
	for range 2 { // what it answers hangs on nothing else
		if got, code := window.Run(w, came); got != want || code != wantCode {
			t.Errorf("Run(%d, %s) = %d, %d, want %d, %d", w, show(l), got, code, want, wantCode)
		}
	}
	if !slices.Equal(came[:cap(came)], was) {
		t.Errorf("Run(%d, %s) changed what came in: %s", w, show(l), show(came[:cap(came)]))
	}
}

func TestP14_1Check(t *testing.T) {
	wantCheck(t, -2147483648, api.ErrRange)
	wantCheck(t, -2147483647, api.OK)
	wantCheck(t, -2147483646, api.OK)
	wantCheck(t, 0, api.OK)
	wantCheck(t, 2147483646, api.OK)
	wantCheck(t, 2147483647, api.OK)
	wantCheck(t, 2147483648, api.ErrRange)
	wantCheck(t, math.MinInt, api.ErrRange)
	wantCheck(t, math.MaxInt, api.ErrRange)
	for _, w := range windows {
		wantCheck(t, w, api.OK)
	}
	for _, w := range outside {
		wantCheck(t, w, api.ErrRange)
	}
}

// Each number of bits, with all that is near it.
func TestP14_1CheckAgainstTheModel(t *testing.T) {
	for bits := range 64 {
		for by := -3; by <= 3; by++ {
			for _, w := range []int{1<<bits + by, -1<<bits + by} {
				want := api.OK
				if !isWindow(w) {
					want = api.ErrRange
				}
				wantCheck(t, w, want)
			}
		}
	}
}

func TestP14_1Example(t *testing.T) {
	wantTake(t, 5, 5, 0)
}

func TestP14_1Take(t *testing.T) {
	for _, w := range []int{1, 2, 5, 100, 65535, most - 1, most} {
		wantTake(t, w, 0, w)
		wantTake(t, w, 1, w-1)
		wantTake(t, w, w-1, 1)
		wantTake(t, w, w, 0)
		for _, n := range []int{w + 1, w + 2, 2*w + 1, most + 1, 1 << 32, math.MaxInt - 1, math.MaxInt} {
			wantNotTaken(t, w, n)
		}
	}
	for n := range 101 {
		wantTake(t, 100, n, 100-n)
	}
}

func TestP14_1TakeOfFewerThanNothing(t *testing.T) {
	for _, w := range everyNumber() {
		for _, n := range []int{-1, -2, -5, -w, -65535, -most, -most - 1, -1 << 32, math.MinInt + 1, math.MinInt} {
			if n < 0 {
				wantNotTaken(t, w, n)
			}
		}
	}
}

func TestP14_1TakeOfAnEmptyWindow(t *testing.T) {
	wantTake(t, 0, 0, 0)
	for _, n := range []int{1, 2, most, most + 1, math.MaxInt, -1, -most, math.MinInt} {
		wantNotTaken(t, 0, n)
	}
}

// Not even 0 bytes: 0 is above such a window.
func TestP14_1TakeOfAWindowBelowNothing(t *testing.T) {
	for _, w := range []int{-1, -2, -5, -65535, -most + 1, -most} {
		for _, n := range []int{w - 1, w, w + 1, -1, 0, 1, -w, most, most + 1, math.MaxInt, math.MinInt} {
			wantNotTaken(t, w, n)
		}
	}
}

func TestP14_1TakeOfNoWindow(t *testing.T) {
	for _, w := range outside {
		for _, n := range []int{0, 1, 5, most, most + 1, w, w - 1, -1, math.MinInt, math.MaxInt} {
			wantNotTaken(t, w, n)
		}
	}
}

func TestP14_1TakeAgainstTheModel(t *testing.T) {
	for _, w := range everyNumber() {
		for _, n := range slices.Concat(everyNumber(), []int{w - 1, w, w + 1, -w}) {
			want, wantIs := modelTake(w, n)
			if got, is := window.Take(w, n); got != want || is != wantIs {
				t.Errorf("Take(%d, %d) = %d, %t, want %d, %t", w, n, got, is, want, wantIs)
			}
		}
	}
}

func TestP14_2Examples(t *testing.T) {
	wantNotGiven(t, most, 1, flowError)
	wantShift(t, 10, 100, 0, -90)
}

func TestP14_2Give(t *testing.T) {
	for _, w := range []int{-most, -65535, -5, -1, 0} {
		wantGive(t, w, 1, w+1)
		wantGive(t, w, 2, w+2)
		wantGive(t, w, 100, w+100)
		wantGive(t, w, most-1, w+most-1)
		wantGive(t, w, most, w+most)
	}
	wantGive(t, -5, 5, 0)
	wantGive(t, -5, 3, -2)
	wantGive(t, -most, most, 0)
	wantGive(t, 0, most, most)
	wantGive(t, 65535, 1000, 66535)
}

func TestP14_2GiveUpToTheGreatestWindow(t *testing.T) {
	for _, w := range []int{1, 2, 5, 65535, most / 2, most - 2, most - 1} {
		wantGive(t, w, most-w, most)
		wantNotGiven(t, w, most-w+1, flowError)
		wantNotGiven(t, w, most, flowError)
		if w < most-1 {
			wantGive(t, w, most-w-1, most-1)
		}
	}
	for _, n := range []int{1, 2, 65535, most - 1, most} {
		wantNotGiven(t, most, n, flowError)
	}
	wantGive(t, -1, most, most-1)
	wantNotGiven(t, 1, most, flowError)
}

func TestP14_2GiveOfTooFewOrTooMany(t *testing.T) {
	for _, w := range windows {
		for _, n := range []int{0, -1, -2, -5, -most, -most - 1, -1 << 32, math.MinInt + 1, math.MinInt} {
			wantNotGiven(t, w, n, protocolError)
		}
		for _, n := range []int{most + 1, most + 2, 2 * most, 1 << 32, 1<<32 + 1, 1 << 62, math.MaxInt - 1, math.MaxInt} {
			wantNotGiven(t, w, n, protocolError) // ahead of that it is too much together
		}
	}
}

func TestP14_2GiveToNoWindow(t *testing.T) {
	for _, w := range outside {
		for _, n := range slices.Concat(everyNumber(), []int{-w, -w - 1, -w + 1}) {
			wantNotGiven(t, w, n, flowError)
		}
	}
}

func TestP14_2GiveAgainstTheModel(t *testing.T) {
	for _, w := range everyNumber() {
		for _, n := range slices.Concat(everyNumber(), []int{most - w - 1, most - w, most - w + 1, -w}) {
			want, wantCode := modelGive(w, n)
			if got, code := window.Give(w, n); got != want || code != wantCode {
				t.Errorf("Give(%d, %d) = %d, %d, want %d, %d", w, n, got, code, want, wantCode)
			}
		}
	}
}

func TestP14_2Shift(t *testing.T) {
	wantShift(t, 10, 0, 100, 110)
	wantShift(t, -90, 0, 100, 10)
	wantShift(t, 65535, 65535, 1000, 1000)
	wantShift(t, 0, 65535, 65536, 1)
	wantShift(t, 0, most, 0, -most)
	wantShift(t, 0, 0, most, most)
	wantShift(t, most, most, 0, 0)
	wantShift(t, -most, 0, most, 0)
	wantShift(t, 7, most-1, most, 8)
	wantShift(t, 7, most, most-1, 6)
}

func TestP14_2ShiftToWhatItIs(t *testing.T) {
	for _, w := range windows {
		for _, n := range []int{0, 1, 2, 65535, most - 1, most} {
			wantShift(t, w, n, n, w)
		}
		for _, n := range []int{-1, -most, most + 1, 1 << 32, math.MinInt, math.MaxInt} {
			wantNotShifted(t, w, n, n, protocolError)
		}
	}
}

func TestP14_2ShiftUpToTheGreatestWindow(t *testing.T) {
	for _, w := range []int{1, 2, 5, 65535, most / 2, most - 1} {
		for _, from := range []int{0, 1, w - 1, w} {
			wantShift(t, w, from, from+most-w, most)
			if from < w {
				wantNotShifted(t, w, from, from+most-w+1, flowError)
			}
		}
		wantNotShifted(t, w, 0, most, flowError)
	}
	for _, from := range []int{0, 1, 65535, most - 1} {
		wantShift(t, most, from, from, most)
		wantNotShifted(t, most, from, from+1, flowError)
		wantNotShifted(t, most, from, most, flowError)
	}
}

func TestP14_2ShiftDownToTheLeastWindow(t *testing.T) {
	for _, w := range []int{-1, -2, -5, -65535, -most / 2, -most + 1} {
		for _, to := range []int{0, 1, -w - 1, -w} {
			wantShift(t, w, to+most+w, to, -most)
			if to < -w {
				wantNotShifted(t, w, to+most+w+1, to, flowError)
			}
		}
		wantNotShifted(t, w, most, 0, flowError)
	}
	for _, to := range []int{0, 1, 65535, most - 1} {
		wantShift(t, -most, to, to, -most)
		wantNotShifted(t, -most, to+1, to, flowError)
		wantNotShifted(t, -most, most, to, flowError)
	}
}

func TestP14_2ShiftOfWhatNoWindowBeginsWith(t *testing.T) {
	wrong := slices.Concat(outside, []int{-1, -2, -5, -65535, -most + 1, -most})
	for _, w := range windows {
		for _, n := range wrong {
			for _, other := range []int{0, 1, 65535, most - 1, most} {
				wantNotShifted(t, w, n, other, protocolError)
				wantNotShifted(t, w, other, n, protocolError)
			}
			for _, other := range wrong {
				wantNotShifted(t, w, n, other, protocolError)
			}
		}
	}
	wantNotShifted(t, most, 0, most+1, protocolError) // ahead of that it is too much together
	wantNotShifted(t, -most, most+1, 0, protocolError)
	wantNotShifted(t, 5, -1, -1, protocolError)
}

func TestP14_2ShiftOfNoWindow(t *testing.T) {
	for _, w := range outside {
		for _, from := range []int{0, 1, most, -1, most + 1, w, -w, math.MinInt, math.MaxInt} {
			for _, to := range []int{0, 1, most, -1, most + 1, w, -w, math.MinInt, math.MaxInt} {
				wantNotShifted(t, w, from, to, flowError)
			}
		}
	}
	wantNotShifted(t, most+5, 5, 0, flowError) // though it would come to one
	wantNotShifted(t, -most-5, 0, 5, flowError)
}

func TestP14_2ShiftAgainstTheModel(t *testing.T) {
	for _, w := range everyNumber() {
		for _, from := range everyNumber() {
			for _, to := range everyNumber() {
				want, wantCode := modelShift(w, from, to)
				if got, code := window.Shift(w, from, to); got != want || code != wantCode {
					t.Errorf("Shift(%d, %d, %d) = %d, %d, want %d, %d", w, from, to, got, code, want, wantCode)
				}
			}
		}
	}
}

func TestP14_3EachAsTheLeastOne(t *testing.T) {
	if window.May(2, 3, 4, 5) != 2 || window.May(3, 2, 4, 5) != 2 || window.May(3, 4, 2, 5) != 2 || window.May(3, 4, 5, 2) != 2 {
		t.Error("not the least one")
	}
	wantMay(t, 2, 3, 4, 5, 2)
	wantMay(t, 1, 65535, 16384, 1024, 1)
	wantMay(t, 16384, 16385, most, 1<<40, 16384)
	wantMay(t, most-1, most, most+1, most+2, most-1)
}

func TestP14_3SeveralThatAreEqual(t *testing.T) {
	for _, n := range []int{1, 2, 5, 1024, 16384, most, 1 << 40, math.MaxInt - 1} {
		wantMay(t, n, n, n+1, n+1, n)
		wantMay(t, n, n, n, n+1, n)
		wantMay(t, n, n+1, n+1, n+1, n)
		wantMay(t, n, n, n, n, n)
	}
}

func TestP14_3OneBelowOne(t *testing.T) {
	for _, n := range []int{0, -1, -2, -5, -65535, -most, -most - 1, -1 << 32, math.MinInt + 1, math.MinInt} {
		wantMay(t, n, 2, 3, 4, 0)
		wantMay(t, n, 1, 1, 1, 0)
		wantMay(t, n, most, most, most, 0)
		wantMay(t, n, math.MaxInt, math.MaxInt, math.MaxInt, 0)
		wantMay(t, n, n, 5, 5, 0)
		wantMay(t, n, -7, 0, 5, 0)
		wantMay(t, n, n, n, n, 0)
	}
	wantMay(t, 1, 2, 3, 4, 1)
	wantMay(t, 1, 1, 1, 1, 1)
	wantMay(t, 1, math.MaxInt, math.MaxInt, math.MaxInt, 1)
}

func TestP14_3AtTheEnds(t *testing.T) {
	wantMay(t, math.MaxInt, math.MaxInt, math.MaxInt, math.MaxInt, math.MaxInt)
	wantMay(t, math.MaxInt-1, math.MaxInt, math.MaxInt, math.MaxInt, math.MaxInt-1)
	wantMay(t, 5, math.MaxInt, math.MaxInt, math.MaxInt, 5)
	wantMay(t, 5, 6, 7, math.MaxInt, 5)
	wantMay(t, 5, 6, 7, math.MinInt, 0)
	wantMay(t, math.MinInt, math.MaxInt, math.MinInt, math.MaxInt, 0)
}

func TestP14_3AgainstTheModel(t *testing.T) {
	l := []int{math.MinInt, -1 << 32, -most - 1, -1, 0, 1, 2, 1024, 16384, 65535, most - 1, most, most + 1, 1<<32 + 1, math.MaxInt}
	for _, conn := range l {
		for _, stream := range l {
			for _, frame := range l {
				for _, left := range l {
					if n, want := window.May(conn, stream, frame, left), modelMay(conn, stream, frame, left); n != want {
						t.Errorf("May(%d, %d, %d, %d) = %d, want %d", conn, stream, frame, left, n, want)
					}
				}
			}
		}
	}
}

func TestP14_4NoActs(t *testing.T) {
	for _, w := range everyNumber() { // of a number that is no window, too: there is no fault
		wantRun(t, w, nil, w, 0)
		wantRun(t, w, []window.Act{}, w, 0)
		if got, code := window.Run(w, nil); got != w || code != 0 {
			t.Errorf("Run(%d, nothing) = %d, %d", w, got, code)
		}
	}
}

func TestP14_4EachKindAlone(t *testing.T) {
	wantRun(t, 100, []window.Act{act(0, 30)}, 70, 0)
	wantRun(t, 100, []window.Act{act(1, 30)}, 130, 0)
	wantRun(t, 100, []window.Act{act(2, 30)}, 130, 0)
	wantRun(t, 100, []window.Act{act(3, 30)}, 70, 0)
	wantRun(t, 100, []window.Act{act(4, 30)}, 100, 0)
	wantRun(t, 10, []window.Act{act(0, 10)}, 0, 0)
	wantRun(t, 10, []window.Act{act(0, 0)}, 10, 0)
	wantRun(t, -10, []window.Act{act(1, 5)}, -5, 0)
	wantRun(t, 10, []window.Act{act(2, 0)}, 10, 0)
	wantRun(t, 10, []window.Act{act(3, 0)}, 10, 0)
	wantRun(t, 10, []window.Act{act(3, 100)}, -90, 0)
	wantRun(t, 0, []window.Act{act(1, most)}, most, 0)
	wantRun(t, 0, []window.Act{act(2, most)}, most, 0)
	wantRun(t, 0, []window.Act{act(3, most)}, -most, 0)
	wantRun(t, most, []window.Act{act(0, most)}, 0, 0)
}

// What each Kind makes of 1000, with a number of its own.
func TestP14_4EachKindBehindEachOtherOne(t *testing.T) {
	acts := []window.Act{act(0, 3), act(1, 50), act(2, 700), act(3, 90), act(4, 5), act(5, 6), act(255, 7)}
	more := []int{-3, 50, 700, -90, 0, 0, 0}
	for i, one := range acts {
		for j, two := range acts {
			wantRun(t, 1000, []window.Act{one, two}, 1000+more[i]+more[j], 0)
			for k, three := range acts {
				wantRun(t, 1000, []window.Act{one, two, three}, 1000+more[i]+more[j]+more[k], 0)
			}
		}
	}
	wantRun(t, 1000, acts, 1657, 0)
}

// The same acts in another order may come to a fault.
func TestP14_4ActsAreDoneInOrder(t *testing.T) {
	wantRun(t, 5, []window.Act{act(1, 5), act(0, 10)}, 0, 0)
	wantRun(t, 5, []window.Act{act(0, 10), act(1, 5)}, 5, flowError)
	wantRun(t, 0, []window.Act{act(2, 10), act(0, 10), act(3, 10)}, -10, 0)
	wantRun(t, 0, []window.Act{act(3, 10), act(0, 10), act(2, 10)}, -10, flowError)
	wantRun(t, most, []window.Act{act(0, 5), act(1, 5)}, most, 0)
	wantRun(t, most, []window.Act{act(1, 5), act(0, 5)}, most, flowError)
	wantRun(t, -most, []window.Act{act(2, 5), act(3, 5)}, -most, 0)
	wantRun(t, -most, []window.Act{act(3, 5), act(2, 5)}, -most, flowError)
}

func TestP14_4OtherKindsDoNothing(t *testing.T) {
	for kind := 4; kind <= 255; kind++ {
		for _, n := range []int{math.MinInt, -most - 1, -1, 0, 1, 5, most, most + 1, math.MaxInt} {
			x := act(uint8(kind), n)
			for _, w := range []int{0, 10, -10, -most, most, most + 1, -most - 1, math.MinInt, math.MaxInt} {
				if got, code := window.Run(w, []window.Act{x}); got != w || code != 0 {
					t.Errorf("Run(%d, %s) = %d, %d", w, show([]window.Act{x}), got, code)
				}
			}
			if got, code := window.Run(10, []window.Act{act(0, 1), x, x, act(1, 5)}); got != 14 || code != 0 {
				t.Errorf("with %s between: %d, %d", show([]window.Act{x}), got, code)
			}
		}
	}
	for _, kind := range []uint8{4, 5, 255} {
		for _, n := range everyNumber() {
			for _, w := range everyNumber() {
				wantRun(t, w, []window.Act{act(kind, n)}, w, 0)
			}
		}
	}
}

// fault is an act that is not possible, at a window ahead of it.
type fault struct {
	w    int
	x    window.Act
	code api.Code
}

// faults are each Kind with each fault that it may have, at windows that acts may come to.
func faults() []fault {
	l := []fault{
		{most, act(1, 1), flowError}, {most - 5, act(1, 6), flowError}, {most - 4, act(1, 5), flowError}, {1, act(1, most), flowError},
		{most, act(2, 1), flowError}, {most - 5, act(2, 6), flowError}, {most - 4, act(2, 5), flowError}, {1, act(2, most), flowError},
		{-most, act(3, 1), flowError}, {-most + 5, act(3, 6), flowError}, {-most + 4, act(3, 5), flowError}, {-1, act(3, most), flowError},
		{0, act(0, 1), flowError}, {5, act(0, 6), flowError}, {-1, act(0, 0), flowError}, {-90, act(0, 0), flowError}, {-90, act(0, 90), flowError}, {-most, act(0, 0), flowError}, {most, act(0, most+1), flowError},
	}
	for _, w := range []int{-most, -90, 0, 5, most - 1, most} {
		for _, n := range []int{-1, -5, -most, -most - 1, math.MinInt + 1, math.MinInt} {
			l = append(l, fault{w, act(0, n), flowError})
		}
		l = append(l, fault{w, act(0, most+1), flowError}, fault{w, act(0, math.MaxInt), flowError}, fault{w, act(1, 0), protocolError})
		for kind := range uint8(3) {
			for _, n := range []int{-1, -5, -most, most + 1, 2 * most, 1 << 32, 1<<32 + 1, math.MinInt + 1, math.MinInt, math.MaxInt - 1, math.MaxInt} {
				l = append(l, fault{w, act(kind+1, n), protocolError})
			}
		}
	}
	return l
}

func TestP14_4AFaultAsTheFirstAct(t *testing.T) {
	behind := []window.Act{act(0, 0), act(1, 1), act(2, 1), act(3, 1), act(4, 0), act(1, 0), act(0, -1), act(2, -1), act(3, most+1), act(2, most+1)}
	for _, x := range faults() {
		wantRun(t, x.w, []window.Act{x.x}, x.w, x.code)
		wantRun(t, x.w, append([]window.Act{x.x}, behind...), x.w, x.code)
		for _, y := range behind {
			wantRun(t, x.w, []window.Act{x.x, y}, x.w, x.code)
		}
		wantRun(t, x.w, []window.Act{x.x, x.x}, x.w, x.code)
	}
}

// way is acts that come from one window to another one, in steps that may be.
func way(from, to int) []window.Act {
	var l []window.Act
	for from < to {
		n := min(to-from, most)
		l = append(l, act(uint8(1+len(l)%2), n))
		from += n
	}
	for from > to {
		n := min(from-to, most)
		if from >= n {
			l = append(l, act(0, n))
		} else {
			l = append(l, act(3, n))
		}
		from -= n
	}
	return l
}

func TestP14_4AFaultInTheMiddleAndAsTheLastAct(t *testing.T) {
	behind := []window.Act{act(4, 0), act(1, 1), act(2, 1), act(3, 1), act(0, 0), act(1, 0), act(0, -1), act(2, most+1)}
	for _, x := range faults() {
		for _, w := range []int{-most, -7, 0, 65535, most} {
			ahead := way(w, x.w)
			wantRun(t, w, ahead, x.w, 0)
			last := append(slices.Clone(ahead), act(9, 1), x.x)
			wantRun(t, w, last, x.w, x.code)
			wantRun(t, w, append(slices.Clone(last), behind...), x.w, x.code)
			for _, y := range behind {
				wantRun(t, w, append(slices.Clone(last), y), x.w, x.code)
			}
		}
	}
}

// Behind a fault nothing is done, and no other fault is told.
func TestP14_4OfTwoFaultsTheFirstCounts(t *testing.T) {
	wantRun(t, 5, []window.Act{act(1, 0), act(0, 6)}, 5, protocolError)
	wantRun(t, 5, []window.Act{act(0, 6), act(1, 0)}, 5, flowError)
	wantRun(t, 5, []window.Act{act(0, 2), act(1, 0), act(0, 2), act(0, 6)}, 3, protocolError)
	wantRun(t, 5, []window.Act{act(0, 2), act(0, 6), act(0, 2), act(1, 0)}, 3, flowError)
	wantRun(t, 5, []window.Act{act(0, 2), {Kind: 9}, act(2, 7), act(3, 20), act(0, 0)}, -10, flowError)
}

func TestP14_4StartsThatAreNoWindow(t *testing.T) {
	for _, w := range outside {
		for kind := range uint8(4) {
			for _, n := range []int{0, 1, 5, most, -1, most + 1, w, -w, math.MinInt, math.MaxInt} {
				wantRun(t, w, []window.Act{act(kind, n)}, w, flowError)
				wantRun(t, w, []window.Act{act(kind, n), act(1, 0), act(2, -1)}, w, flowError)
				wantRun(t, w, []window.Act{act(4, n), act(255, n), act(kind, n)}, w, flowError)
			}
		}
		for _, kind := range []uint8{4, 5, 255} {
			for _, n := range everyNumber() {
				wantRun(t, w, []window.Act{act(kind, n)}, w, 0)
			}
		}
		wantRun(t, w, []window.Act{act(4, 1), act(5, 1), act(255, 1)}, w, 0)
	}
	wantRun(t, most+5, []window.Act{act(3, 5)}, most+5, flowError) // though it would come to a window
	wantRun(t, -most-5, []window.Act{act(2, 5)}, -most-5, flowError)
	wantRun(t, -most-5, []window.Act{act(1, 5)}, -most-5, flowError)
	wantRun(t, most+5, []window.Act{act(0, 5)}, most+5, flowError)
}

func TestP14_4TwoActsAgainstTheModel(t *testing.T) {
	numbers := []int{math.MinInt, -most - 1, -most, -1, 0, 1, 5, most - 1, most, most + 1, math.MaxInt}
	var acts []window.Act
	for kind := range uint8(6) {
		for _, n := range numbers {
			acts = append(acts, act(kind, n))
		}
	}
	for _, w := range append(numbers, -5, 65535) {
		for _, one := range acts {
			for _, two := range acts {
				l := []window.Act{one, two}
				want, wantCode := modelRun(w, l)
				if got, code := window.Run(w, l); got != want || code != wantCode {
					t.Errorf("Run(%d, %s) = %d, %d, want %d, %d", w, show(l), got, code, want, wantCode)
				}
			}
		}
	}
}

// someNumber is one that an act may have: of any greatness, at an edge now and then, and now and then one that may not be.
func someNumber(r *rand.Rand) int {
	switch r.Intn(12) {
	case 0:
		return everyNumber()[r.Intn(len(everyNumber()))]
	case 1:
		return most - r.Intn(3)
	}
	return r.Intn(1 << r.Intn(32))
}

func TestP14_4ManyActsAgainstTheModel(t *testing.T) {
	whole, cut := 0, 0
	for seed := range int64(3000) {
		r := rand.New(rand.NewSource(seed))
		w := windows[r.Intn(len(windows))]
		l := make([]window.Act, r.Intn(40))
		for i := range l {
			l[i] = act(uint8(r.Intn(5)), someNumber(r))
		}
		want, wantCode := modelRun(w, l)
		wantRun(t, w, l, want, wantCode)
		if wantCode == 0 {
			whole++
		} else {
			cut++
		}
	}
	if whole < 50 || cut < 50 {
		t.Errorf("%d runs without a fault, %d with one", whole, cut)
	}
}

// ledger is what was done to a window, each kind of thing of its own.
type ledger struct {
	began, given, taken, raised, sunk *big.Int
}

func newLedger(w int) ledger {
	return ledger{big.NewInt(int64(w)), new(big.Int), new(big.Int), new(big.Int), new(big.Int)}
}

// window is what the window must be.
func (l ledger) window() *big.Int {
	n := new(big.Int).Add(l.began, l.given)
	n.Sub(n, l.taken)
	n.Add(n, l.raised)
	return n.Sub(n, l.sunk)
}

func add(to *big.Int, n int) { to.Add(to, big.NewInt(int64(n))) }

// step does one of Take, Give and Shift, by chance, and tells whether it was possible.
func step(r *rand.Rand, l ledger, w int) (int, bool) {
	n := someNumber(r)
	switch r.Intn(3) {
	case 0:
		left, is := window.Take(w, n)
		if is {
			add(l.taken, n)
		}
		return left, is
	case 1:
		got, code := window.Give(w, n)
		if code == 0 {
			add(l.given, n)
		}
		return got, code == 0
	}
	from := someNumber(r)
	got, code := window.Shift(w, from, n)
	if code == 0 {
		add(l.sunk, from)
		add(l.raised, n)
	}
	return got, code == 0
}

func TestP14_5AWindowIsWhatWasGivenLessWhatWasTaken(t *testing.T) {
	for seed := range int64(60) {
		r := rand.New(rand.NewSource(seed))
		w := windows[r.Intn(len(windows))]
		l := newLedger(w)
		done, refused := 0, 0
		for i := range 5000 {
			was := w
			next, is := step(r, l, w)
			w = next
			if is {
				done++
			} else if refused++; w != was {
				t.Fatalf("seed %d: behind step %d the window is %d, though it was refused at %d", seed, i, w, was)
			}
			if l.window().Cmp(big.NewInt(int64(w))) != 0 {
				t.Fatalf("seed %d: behind step %d the window is %d, want %s", seed, i, w, l.window())
			}
			if window.Check(w) != api.OK || w < -most || w > most {
				t.Fatalf("seed %d: behind step %d stands %d, which is no window", seed, i, w)
			}
		}
		if done < 500 || refused < 500 {
			t.Errorf("seed %d: %d done, %d refused", seed, done, refused)
		}
	}
}

// What Take, Give and Shift do one by one is what Run does of the same acts.
func TestP14_5ARunIsItsActsOneByOne(t *testing.T) {
	for seed := range int64(200) {
		r := rand.New(rand.NewSource(seed))
		start := windows[r.Intn(len(windows))]
		w, l := start, newLedger(start)
		var acts []window.Act
		for range 300 {
			kind, n := uint8(r.Intn(5)), r.Intn(1<<r.Intn(32))
			next, code := window.Run(w, []window.Act{act(kind, n)})
			if code != 0 {
				continue
			}
			w = next
			add([]*big.Int{l.taken, l.given, l.raised, l.sunk, new(big.Int)}[kind], n)
			acts = append(acts, act(kind, n))
		}
		if len(acts) < 50 || l.window().Cmp(big.NewInt(int64(w))) != 0 {
			t.Fatalf("seed %d: %d acts from %d came to %d, want %s", seed, len(acts), start, w, l.window())
		}
		wantRun(t, start, acts, w, 0)
		for i := range acts { // cut in two anywhere
			half, code := window.Run(start, acts[:i])
			if got, next := window.Run(half, acts[i:]); got != w || code != 0 || next != 0 {
				t.Fatalf("seed %d: cut behind %d acts: %d, %d, %d, want %d", seed, i, got, code, next, w)
			}
		}
	}
}

// firsts are numbers that windows may begin with.
var firsts = []int{0, 1, 2, 5, 1000, 65535, 65536, most / 2, most/2 + 1, most - 65535, most - 5, most - 2, most - 1, most}

func TestP14_5AShiftThereAndBack(t *testing.T) {
	possible := 0
	for _, w := range everyNumber() {
		for _, a := range firsts {
			for _, b := range firsts {
				there, code := window.Shift(w, a, b)
				if code != 0 {
					continue
				}
				possible++
				wantShift(t, there, b, a, w)
			}
		}
	}
	if possible < 1000 {
		t.Errorf("%d shifts were possible", possible)
	}
}

func TestP14_5AShiftInTwoSteps(t *testing.T) {
	possible := 0
	for _, w := range windows {
		for _, a := range firsts {
			for _, b := range firsts {
				between, code := window.Shift(w, a, b)
				if code != 0 {
					continue
				}
				for _, c := range firsts {
					two, twoCode := window.Shift(between, b, c)
					one, oneCode := window.Shift(w, a, c)
					if oneCode != twoCode {
						t.Errorf("Shift(%d, %d, %d) = %d, but by %d: %d", w, a, c, oneCode, b, twoCode)
					}
					if oneCode == 0 && twoCode == 0 {
						possible++
						wantShift(t, w, a, c, two)
						wantShift(t, between, b, c, one)
					}
				}
			}
		}
	}
	if possible < 5000 {
		t.Errorf("%d shifts were possible", possible)
	}
}

// By chance too, over windows and numbers of any greatness.
func TestP14_5ShiftsByChance(t *testing.T) {
	r := rand.New(rand.NewSource(14))
	number := func() int { return r.Intn(1 << r.Intn(32)) }
	for range 100000 {
		w, a, b, c := number()-number(), number(), number(), number()
		one, code := window.Shift(w, a, b)
		if code != 0 {
			continue
		}
		wantShift(t, one, b, a, w)
		if two, code := window.Shift(one, b, c); code == 0 {
			wantShift(t, w, a, c, two)
		}
	}
}

// What is taken and given back, or given and taken back, leaves a window as it was.
func TestP14_5TakeAndGiveThereAndBack(t *testing.T) {
	for _, w := range windows {
		for _, n := range windows {
			if left, is := window.Take(w, n); is && n > 0 {
				wantGive(t, left, n, w)
			}
			if got, code := window.Give(w, n); code == 0 {
				if got >= n {
					wantTake(t, got, n, w)
				} else {
					wantNotTaken(t, got, n) // what a window lacked is not to be taken back
				}
			}
		}
	}
}
